/- Part 6 of the walks and facts behind ipBack_holds. -/
import Derived.Test.YtndonmdgplojnaaGreatDoorBa5
/- Texts that are read as addresses and prefixes: likely, Read, ReadPrefix. -/
namespace Go.Proofs.YtndonmdgplojnaaGreatDoor
open Go.RowKit

section
variable {P : Program} {ops : Array Oper} {rest : List Oper} {o : Oper} {a : Act} {w : World} {c : Ctx} {L : List Blk} {Q : Exit → Act → World → Prop}
theorem pl_callL (M : Mem c L w) (hw : Region.wanted o (yielded ops a.tmps) = true) (d : Option Tmp) (hd : o.dst = d) (f : FuncId) (args : Array Value) (v : Nat → Nat → Value) (K : Nat → Obj → Prop) (hrun : ∀ w, (execOp a.eval o).run P w = .ok (.enter f args) w)
    (hc : ∀ w, Mem c L w → Calls P f args w fun e w' => ∃ g cap Z, e = .returned (v g cap) ∧ w.heap.size ≤ g ∧ w'.heap[g]? = some Z ∧ K cap Z ∧ Below w.heap.size w w') (h : ∀ g cap Z w', K cap Z → Mem c (L ++ [⟨g, Z⟩]) w' → PL P ops Q rest (a.put d (v g cap)) w') : PL P ops Q (o :: rest) a w :=
  pl_callq hw d hd f args hrun ((hc w M).mono fun _ w' ⟨g, cap, Z, he, h1, h2, h3, hb⟩ => ⟨v g cap, he, h g cap Z w' h3 (M.new g Z hb h2 h1)⟩)
end
def q4 (l : List Int) : Nat → Int
  | 0 => 0
  | j + 1 => uo (sl (q4 l j) 8) (cv .u64 (tgi l j))
def lk4 (s : ByteArray) : Option Int := match nbs 10 255 s ⟨#[46]⟩ with
  | some l => if l.length = 4 then some (q4 l 4) else none
  | none => none
/-- Numbers, laid over others. -/
def cpl (f : Nat → Int) (od : Nat) (l : List Int) : Nat → Int := fun i => if od ≤ i ∧ i < od + l.length then tgi l (i - od) else f i
theorem cpl_w16 (f : Nat → Int) (od : Nat) (l : List Int) (j : Nat) : (if od ≤ j ∧ j < od + l.length then w16 (tgi l) (j - od) else w16 f j) = w16 (cpl f od l) j := by
  unfold w16 cpl
  split <;> rfl
theorem cpl_nil (f : Nat → Int) (od : Nat) : cpl f od [] = f := by
  funext i
  exact if_neg (by simp)
def g6 (l1 l2 : List Int) : Nat → Int := cpl (cpl (fun _ => 0) 0 l1) (8 - l2.length) l2
def lk6 (s : ByteArray) : Option (Int × Int) := match nbs 16 65535 (cuA s ⟨#[58, 58]⟩) ⟨#[58]⟩, nbs 16 65535 (cuB s ⟨#[58, 58]⟩) ⟨#[58]⟩ with
  | some l1, some l2 => if 8 < l1.length + l2.length then none else some (adH (g6 l1 l2), adL (g6 l1 l2))
  | _, _ => none
theorem cuA_le (s sep : ByteArray) : (cuA s sep).size ≤ s.size := by
  unfold cuA Lib.cut
  split
  · show (List.take _ _).length ≤ s.data.toList.length
    rw [List.length_take]
    omega
  · exact Nat.le_refl _
theorem cuB_le (s sep : ByteArray) : (cuB s sep).size ≤ s.size := by
  unfold cuB Lib.cut
  split
  · show (List.drop _ _).length ≤ s.data.toList.length
    rw [List.length_drop]
    omega
  · exact Nat.zero_le _
set_option maxRecDepth 100000 in
set_option maxHeartbeats 4000000 in
set_option linter.unusedSimpArgs false in
theorem c_likely4 (s : ByteArray) (hs : s.size ≤ 1000) (w : World) (hL : Laid w)  :
    Calls Tryz.prog 70 #[.string s] w fun r w' => r = .returned (.tuple #[.agg (av 3 (ls [.bool false, .int .u64 0, .int .u64 ((lk4 s).getD 0)])), .bool ((lk4 s).isSome)]) ∧ Below w.heap.size w w' := by
  go_enter Tryz.func70, Tryz.ntmps70
  have M := Mem.start hL
  refine wp_seq ?_
  refine rg_lit ?_
  refine pl_new M (want_no rfl) (some 2) rfl (.cells (av 3 (ls [.bool false, .int .u64 0, .int .u64 0])) 24) (fun _ => by kernel_rfl) ?_
  intro g1 u1 M
  replace M : Mem ⟨w, []⟩ [⟨g1, .cells (av 3 (ls [.bool false, .int .u64 0, .int .u64 0])) 24⟩] u1 := M
  refine pl_val (want_no rfl) (some 3) rfl (.bool false) (fun _ => by kernel_rfl) ?_
  refine pl_nil ?_
  refine au_then ?_
  refine wp_seq ?_
  refine rg_lit ?_
  refine pl_val (want_no rfl) (some 10) rfl (.string s) (fun _ => by kernel_rfl) ?_
  rcases hN1 : nbs 10 255 s ⟨#[46]⟩ with _ | l1
  · skip
    refine pl_call M (want_no rfl) (some 11) rfl 89 #[.string s, .string ⟨#[46]⟩, .int .i64 10, .int .i64 8] (.tuple #[.slice none 0 0, .bool false]) (fun _ => by kernel_rfl) (fun w M => c_nums10N s ⟨#[46]⟩ (hs) (by decide) hN1 w M.laid) ?_
    intro u2 M
    refine pl_val (want_no rfl) (some 9) rfl (.tuple #[.slice none 0 0, .bool false]) (fun _ => by kernel_rfl) ?_
    refine pl_val (want_no rfl) (some 12) rfl (.slice none 0 0) (fun _ => by kernel_rfl) ?_
    refine pl_val (want_no rfl) (some 13) rfl (.bool false) (fun _ => by kernel_rfl) ?_
    refine pl_val (want_no rfl) (some 4) rfl (.slice none 0 0) (fun _ => by kernel_rfl) ?_
    refine pl_val (want_no rfl) (some 5) rfl (.bool false) (fun _ => by kernel_rfl) ?_
    refine pl_nil ?_
    refine au_then ?_
    refine wp_seq ?_
    refine wp_seq ?_
    refine rg_lit ?_
    refine pl_val (want_no rfl) (some 14) rfl (.bool false) (fun _ => by kernel_rfl) ?_
    refine pl_val (want_no rfl) (some 15) rfl (.bool true) (fun _ => by kernel_rfl) ?_
    refine pl_val (want_no rfl) (some 16) rfl (.bool true) (fun _ => by kernel_rfl) ?_
    refine pl_skip (want_off 2 false rfl 16 rfl (by kernel_rfl)) (some 17) rfl ?_
    refine pl_skip (want_off 2 false rfl 16 rfl (by kernel_rfl)) (some 18) rfl ?_
    refine pl_skip (want_off 2 false rfl 16 rfl (by kernel_rfl)) (some 19) rfl ?_
    refine pl_val (want_no rfl) (some 20) rfl (.bool true) (fun _ => by kernel_rfl) ?_
    refine pl_nil ?_
    refine au_then ?_
    refine wp_cond_true (by kernel_rfl) ?_
    refine wp_seq ?_
    refine rg_lit ?_
    refine pl_val (want_no rfl) (some 21) rfl (.agg (av 3 (ls [.bool false, .int .u64 0, .int .u64 0]))) (fun _ => by kernel_rfl) ?_
    refine pl_put M (want_no rfl) rfl 24 _ _ rfl 0 g1 0 (by kernel_rfl) 3 24 (ls [.bool false, .int .u64 0, .int .u64 0]) rfl 3 (ls [.bool false, .int .u64 0, .int .u64 0]) (ls [.bool false, .int .u64 0, .int .u64 0]) (by kernel_rfl) inz24 (by decide) (one_ls _ rfl) (fun j hj => by rw [if_pos (by omega), Nat.sub_zero]) ?_
    intro u3 M
    replace M : Mem ⟨w, []⟩ [⟨g1, .cells (av 3 (ls [.bool false, .int .u64 0, .int .u64 0])) 24⟩] u3 := M
    refine pl_val (want_no rfl) (some 3) rfl (.bool false) (fun _ => by kernel_rfl) ?_
    refine pl_nil ?_
    refine au_then ?_
    refine wp_ret ?_
    refine au_then_ret ?_
    have e0 : ((lk4 s).getD 0) = 0 := by rw [(show lk4 s = none by unfold lk4; rw [hN1])]; rfl
    have e1 : (lk4 s).isSome = false := by rw [(show lk4 s = none by unfold lk4; rw [hN1])]; rfl
    exact bodyPost_ret (v := .tuple #[.agg (av 3 (ls [.bool false, .int .u64 0, .int .u64 0])), .bool false]) (results_cell_tmp Tryz.results70 _ _ g1 24 (av 3 (ls [.bool false, .int .u64 0, .int .u64 0])) (0, 0) _ _ (by kernel_rfl) (by kernel_rfl) (M.get 0 rfl) Tryz.underlying24 rfl (by rw [av_size]; exact inz24)) (by kernel_rfl) ⟨by rw [e0, e1], below_grown M.old⟩
  · skip
    by_cases he1 : l1 = []
    · skip
      subst he1
      refine pl_call M (want_no rfl) (some 11) rfl 89 #[.string s, .string ⟨#[46]⟩, .int .i64 10, .int .i64 8] (.tuple #[.slice none 0 0, .bool true]) (fun _ => by kernel_rfl) (fun w M => c_nums10E s ⟨#[46]⟩ (hs) (by decide) hN1 w M.laid) ?_
      intro u2 M
      refine pl_val (want_no rfl) (some 9) rfl (.tuple #[.slice none 0 0, .bool true]) (fun _ => by kernel_rfl) ?_
      refine pl_val (want_no rfl) (some 12) rfl (.slice none 0 0) (fun _ => by kernel_rfl) ?_
      refine pl_val (want_no rfl) (some 13) rfl (.bool true) (fun _ => by kernel_rfl) ?_
      refine pl_val (want_no rfl) (some 4) rfl (.slice none 0 0) (fun _ => by kernel_rfl) ?_
      refine pl_val (want_no rfl) (some 5) rfl (.bool true) (fun _ => by kernel_rfl) ?_
      refine pl_nil ?_
      refine au_then ?_
      refine wp_seq ?_
      refine wp_seq ?_
      refine rg_lit ?_
      refine pl_val (want_no rfl) (some 14) rfl (.bool true) (fun _ => by kernel_rfl) ?_
      refine pl_val (want_no rfl) (some 15) rfl (.bool false) (fun _ => by kernel_rfl) ?_
      refine pl_val (want_no rfl) (some 16) rfl (.bool false) (fun _ => by kernel_rfl) ?_
      refine pl_val (want_on 2 false rfl 16 rfl (by kernel_rfl)) (some 17) rfl (.slice none 0 0) (fun _ => by kernel_rfl) ?_
      refine pl_val (want_on 2 false rfl 16 rfl (by kernel_rfl)) (some 18) rfl (.int .i64 0) (fun _ => by kernel_rfl) ?_
      refine pl_val (want_on 2 false rfl 16 rfl (by kernel_rfl)) (some 19) rfl (.bool true) (fun _ => by kernel_rfl) ?_
      refine pl_val (want_no rfl) (some 20) rfl (.bool true) (fun _ => by kernel_rfl) ?_
      refine pl_nil ?_
      refine au_then ?_
      refine wp_cond_true (by kernel_rfl) ?_
      refine wp_seq ?_
      refine rg_lit ?_
      refine pl_val (want_no rfl) (some 21) rfl (.agg (av 3 (ls [.bool false, .int .u64 0, .int .u64 0]))) (fun _ => by kernel_rfl) ?_
      refine pl_put M (want_no rfl) rfl 24 _ _ rfl 0 g1 0 (by kernel_rfl) 3 24 (ls [.bool false, .int .u64 0, .int .u64 0]) rfl 3 (ls [.bool false, .int .u64 0, .int .u64 0]) (ls [.bool false, .int .u64 0, .int .u64 0]) (by kernel_rfl) inz24 (by decide) (one_ls _ rfl) (fun j hj => by rw [if_pos (by omega), Nat.sub_zero]) ?_
      intro u3 M
      replace M : Mem ⟨w, []⟩ [⟨g1, .cells (av 3 (ls [.bool false, .int .u64 0, .int .u64 0])) 24⟩] u3 := M
      refine pl_val (want_no rfl) (some 3) rfl (.bool false) (fun _ => by kernel_rfl) ?_
      refine pl_nil ?_
      refine au_then ?_
      refine wp_ret ?_
      refine au_then_ret ?_
      have e0 : ((lk4 s).getD 0) = 0 := by rw [(show lk4 s = none by unfold lk4; rw [hN1]; rfl)]; rfl
      have e1 : (lk4 s).isSome = false := by rw [(show lk4 s = none by unfold lk4; rw [hN1]; rfl)]; rfl
      exact bodyPost_ret (v := .tuple #[.agg (av 3 (ls [.bool false, .int .u64 0, .int .u64 0])), .bool false]) (results_cell_tmp Tryz.results70 _ _ g1 24 (av 3 (ls [.bool false, .int .u64 0, .int .u64 0])) (0, 0) _ _ (by kernel_rfl) (by kernel_rfl) (M.get 0 rfl) Tryz.underlying24 rfl (by rw [av_size]; exact inz24)) (by kernel_rfl) ⟨by rw [e0, e1], below_grown M.old⟩
    · skip
      refine pl_callL M (want_no rfl) (some 11) rfl 89 #[.string s, .string ⟨#[46]⟩, .int .i64 10, .int .i64 8] (fun g cap => .tuple #[.slice (some ⟨g, 0, none⟩) l1.length cap, .bool true]) (fun cap Z => SB Z cap (v16 l1)) (fun _ => by kernel_rfl) (fun w M => c_nums10L s ⟨#[46]⟩ (hs) (by decide) l1 he1 hN1 w M.laid) ?_
      intro gl1 cp1 Z1 u2 hZ1 M
      replace M : Mem ⟨w, []⟩ [⟨g1, .cells (av 3 (ls [.bool false, .int .u64 0, .int .u64 0])) 24⟩, ⟨gl1, Z1⟩] u2 := M
      refine pl_val (want_no rfl) (some 9) rfl (.tuple #[.slice (some ⟨gl1, 0, none⟩) l1.length cp1, .bool true]) (fun _ => by kernel_rfl) ?_
      refine pl_val (want_no rfl) (some 12) rfl (.slice (some ⟨gl1, 0, none⟩) l1.length cp1) (fun _ => by kernel_rfl) ?_
      refine pl_val (want_no rfl) (some 13) rfl (.bool true) (fun _ => by kernel_rfl) ?_
      refine pl_val (want_no rfl) (some 4) rfl (.slice (some ⟨gl1, 0, none⟩) l1.length cp1) (fun _ => by kernel_rfl) ?_
      refine pl_val (want_no rfl) (some 5) rfl (.bool true) (fun _ => by kernel_rfl) ?_
      refine pl_nil ?_
      refine au_then ?_
      refine wp_seq ?_
      refine wp_seq ?_
      refine rg_lit ?_
      refine pl_val (want_no rfl) (some 14) rfl (.bool true) (fun _ => by kernel_rfl) ?_
      refine pl_val (want_no rfl) (some 15) rfl (.bool false) (fun _ => by kernel_rfl) ?_
      refine pl_val (want_no rfl) (some 16) rfl (.bool false) (fun _ => by kernel_rfl) ?_
      refine pl_val (want_on 2 false rfl 16 rfl (by kernel_rfl)) (some 17) rfl (.slice (some ⟨gl1, 0, none⟩) l1.length cp1) (fun _ => by kernel_rfl) ?_
      refine pl_val (want_on 2 false rfl 16 rfl (by kernel_rfl)) (some 18) rfl (.int .i64 ((l1.length : Nat) : Int)) (fun _ => by kernel_rfl) ?_
      by_cases c2 : ((l1.length : Nat) : Int) = 4
      · skip
        refine pl_val (want_on 2 false rfl 16 rfl (by kernel_rfl)) (some 19) rfl (.bool false) (fun w => Eq.trans (b := .ok (.value (.bool (!(decide (((l1.length : Nat) : Int) = 4))))) w) (by kernel_rfl) (by rw [decide_eq_true (c2)]; rfl)) ?_
        refine pl_val (want_no rfl) (some 20) rfl (.bool false) (fun _ => by kernel_rfl) ?_
        refine pl_nil ?_
        refine au_then ?_
        refine wp_cond_false (by kernel_rfl) ?_
        refine wp_skip ?_
        refine au_then ?_
        refine wp_seq ?_
        refine rg_lit ?_
        refine pl_new M (want_no rfl) (some 6) rfl (.cells (av 3 (ls [.bool false, .int .u64 0, .int .u64 0])) 24) (fun _ => by kernel_rfl) ?_
        intro g2 u3 M
        replace M : Mem ⟨w, []⟩ [⟨g1, .cells (av 3 (ls [.bool false, .int .u64 0, .int .u64 0])) 24⟩, ⟨gl1, Z1⟩, ⟨g2, .cells (av 3 (ls [.bool false, .int .u64 0, .int .u64 0])) 24⟩] u3 := M
        refine pl_nil ?_
        refine au_then ?_
        refine wp_seq ?_
        refine wp_seq ?_
        refine rg_lit ?_
        refine pl_val (want_no rfl) (some 22) rfl (.slice (some ⟨gl1, 0, none⟩) l1.length cp1) (fun _ => by kernel_rfl) ?_
        refine pl_val (want_no rfl) (some 23) rfl (.int .i64 ((l1.length : Nat) : Int)) (fun _ => by kernel_rfl) ?_
        refine pl_val (want_no rfl) (some 24) rfl (.int .i64 0) (fun _ => by kernel_rfl) ?_
        refine pl_nil ?_
        refine au_then ?_
        refine wp_block ?_
        refine au_loop (fun j a w' => ∃ v1 : Nat → Value, a = ⟨#[.string s, undef, .pointer (some ⟨g1, 0, none⟩), .bool false, .slice (some ⟨gl1, 0, none⟩) l1.length cp1, .bool true, .pointer (some ⟨g2, 0, none⟩), undef, v1 8, .tuple #[.slice (some ⟨gl1, 0, none⟩) l1.length cp1, .bool true], .string s, .tuple #[.slice (some ⟨gl1, 0, none⟩) l1.length cp1, .bool true], .slice (some ⟨gl1, 0, none⟩) l1.length cp1, .bool true, .bool true, .bool false, .bool false, .slice (some ⟨gl1, 0, none⟩) l1.length cp1, .int .i64 ((l1.length : Nat) : Int), .bool false, .bool false, undef, .slice (some ⟨gl1, 0, none⟩) l1.length cp1, .int .i64 ((l1.length : Nat) : Int), .int .i64 (j : Int), v1 25, v1 26, v1 27, v1 28, v1 29, v1 30, v1 31, v1 32, v1 33, v1 34, v1 35, undef], []⟩ ∧ Mem ⟨w, []⟩ [⟨g1, .cells (av 3 (ls [.bool false, .int .u64 0, .int .u64 0])) 24⟩, ⟨gl1, Z1⟩, ⟨g2, .cells (av 3 (ls [.bool false, .int .u64 0, .int .u64 (q4 l1 j)])) 24⟩] w') 4 ⟨fun k_ => ([undef, undef, undef, undef, undef, undef, undef, undef, undef, undef, undef, undef, undef, undef, undef, undef, undef, undef, undef, undef, undef, undef, undef, undef, undef, undef, undef, undef] : List Value).getD (k_ - 8) undef, by kernel_rfl, M⟩ ?_ ?_
        · intro j a u0 hj hI
          obtain ⟨v1, rfl, M⟩ := hI
          refine wp_seq ?_
          refine rg_lit ?_
          refine pl_val (want_no rfl) (some 25) rfl (.bool true) (fun w => Eq.trans (b := .ok (.value (.bool (decide ((j : Int) < ((l1.length : Nat) : Int))))) w) (by kernel_rfl) (by rw [decide_eq_true (by omega)])) ?_
          refine pl_nil ?_
          refine au_then ?_
          refine wp_seq ?_
          refine wp_cond_true (by kernel_rfl) ?_
          refine wp_skip ?_
          refine au_then ?_
          refine wp_seq ?_
          refine wp_block ?_
          refine wp_seq ?_
          refine rg_lit ?_
          refine pl_val (want_no rfl) (some 26) rfl (.pointer (some ⟨gl1, j, none⟩)) (run_ix0 99 32 Tryz.underlying99 inz32 _ _ rfl gl1 l1.length cp1 (by kernel_rfl) .i64 j (by kernel_rfl) (by omega)) ?_
          refine pl_cell M (want_no rfl) (some 27) rfl 32 _ rfl gl1 j (by kernel_rfl) (.int .u16 (tgi l1 j)) (fun _ => by kernel_rfl) (fun w M => hZ1.cell (M.get 1 rfl) (v16_at _ _ (by omega))) ?_
          refine pl_val (want_no rfl) (some 8) rfl (.int .u16 (tgi l1 j)) (fun _ => by kernel_rfl) ?_
          refine pl_nil ?_
          refine au_then ?_
          refine rg_lit ?_
          refine pl_val (want_no rfl) (some 28) rfl (.pointer (some ⟨g2, 2, none⟩)) (fun _ => by kernel_rfl) ?_
          refine pl_cell M (want_no rfl) (some 29) rfl 22 _ rfl g2 2 (by kernel_rfl) (.int .u64 (q4 l1 j)) (fun _ => by kernel_rfl) (fun w M => M.cell 2 rfl (by decide) rfl) ?_
          refine pl_val (want_no rfl) (some 30) rfl (.int .u64 (sl (q4 l1 j) 8)) (fun _ => by kernel_rfl) ?_
          refine pl_val (want_no rfl) (some 31) rfl (.int .u16 (tgi l1 j)) (fun _ => by kernel_rfl) ?_
          refine pl_val (want_no rfl) (some 32) rfl (.int .u64 (cv .u64 (tgi l1 j))) (fun _ => by kernel_rfl) ?_
          refine pl_val (want_no rfl) (some 33) rfl (.int .u64 (uo (sl (q4 l1 j) 8) (cv .u64 (tgi l1 j)))) (fun _ => by kernel_rfl) ?_
          refine pl_val (want_no rfl) (some 34) rfl (.pointer (some ⟨g2, 2, none⟩)) (fun _ => by kernel_rfl) ?_
          refine pl_put1 M (want_no rfl) rfl 22 _ _ rfl 2 g2 2 (by kernel_rfl) 3 24 (ls [.bool false, .int .u64 0, .int .u64 (q4 l1 j)]) rfl (.int .u64 (uo (sl (q4 l1 j) 8) (cv .u64 (tgi l1 j)))) (ls [.bool false, .int .u64 0, .int .u64 (uo (sl (q4 l1 j) 8) (cv .u64 (tgi l1 j)))]) (by kernel_rfl) inz22 (by decide) rfl rfl (put_ls _ 2 _ _ rfl) ?_
          intro u4 M
          replace M : Mem ⟨w, []⟩ [⟨g1, .cells (av 3 (ls [.bool false, .int .u64 0, .int .u64 0])) 24⟩, ⟨gl1, Z1⟩, ⟨g2, .cells (av 3 (ls [.bool false, .int .u64 0, .int .u64 (uo (sl (q4 l1 j) 8) (cv .u64 (tgi l1 j)))])) 24⟩] u4 := M
          refine pl_nil ?_
          refine au_block ?_
          refine au_then ?_
          refine rg_lit ?_
          refine pl_val (want_no rfl) (some 35) rfl (.int .i64 ((j + 1 : Nat) : Int)) (fun w => Eq.trans (b := .ok (.value (.int .i64 (IntKind.wrap .i64 ((j : Int) + 1)))) w) (by kernel_rfl) (by rw [wrap64 (by omega) (by omega)]; congr 3)) ?_
          refine pl_val (want_no rfl) (some 24) rfl (.int .i64 ((j + 1 : Nat) : Int)) (fun _ => by kernel_rfl) ?_
          refine pl_nil ?_
          refine au_then ?_
          exact ⟨fun k_ => ([.int .u16 (tgi l1 j), undef, undef, undef, undef, undef, undef, undef, undef, undef, undef, undef, undef, undef, undef, undef, undef, .bool true, .pointer (some ⟨gl1, j, none⟩), .int .u16 (tgi l1 j), .pointer (some ⟨g2, 2, none⟩), .int .u64 (q4 l1 j), .int .u64 (sl (q4 l1 j) 8), .int .u16 (tgi l1 j), .int .u64 (cv .u64 (tgi l1 j)), .int .u64 (uo (sl (q4 l1 j) 8) (cv .u64 (tgi l1 j))), .pointer (some ⟨g2, 2, none⟩), .int .i64 ((j + 1 : Nat) : Int)] : List Value).getD (k_ - 8) undef, by kernel_rfl, M⟩
        · intro a u0 hI
          obtain ⟨v1, rfl, M⟩ := hI
          refine wp_seq ?_
          refine rg_lit ?_
          refine pl_val (want_no rfl) (some 25) rfl (.bool false) (fun w => Eq.trans (b := .ok (.value (.bool (decide ((4 : Int) < ((l1.length : Nat) : Int))))) w) (by kernel_rfl) (by rw [decide_eq_false (by omega)])) ?_
          refine pl_nil ?_
          refine au_then ?_
          refine wp_seq ?_
          refine wp_cond_false (by kernel_rfl) ?_
          refine wp_exit ?_
          refine au_then_exit ?_
          refine au_then_exit ?_
          refine au_block_exit ?_
          refine au_then ?_
          refine wp_seq ?_
          refine rg_lit ?_
          refine pl_load M (want_no rfl) (some 36) rfl 24 _ rfl 2 g2 0 (by kernel_rfl) 3 24 (ls [.bool false, .int .u64 0, .int .u64 (q4 l1 4)]) rfl 3 (ls [.bool false, .int .u64 0, .int .u64 (q4 l1 4)]) (fun j _ => by rw [Nat.zero_add]) (by decide) _ Tryz.underlying24 rfl inz24 ?_
          refine pl_put M (want_no rfl) rfl 24 _ _ rfl 0 g1 0 (by kernel_rfl) 3 24 (ls [.bool false, .int .u64 0, .int .u64 0]) rfl 3 (ls [.bool false, .int .u64 0, .int .u64 (q4 l1 4)]) (ls [.bool false, .int .u64 0, .int .u64 (q4 l1 4)]) (by kernel_rfl) inz24 (by decide) (one_ls _ rfl) (fun j hj => by rw [if_pos (by omega), Nat.sub_zero]) ?_
          intro u4 M
          replace M : Mem ⟨w, []⟩ [⟨g1, .cells (av 3 (ls [.bool false, .int .u64 0, .int .u64 (q4 l1 4)])) 24⟩, ⟨gl1, Z1⟩, ⟨g2, .cells (av 3 (ls [.bool false, .int .u64 0, .int .u64 (q4 l1 4)])) 24⟩] u4 := M
          refine pl_val (want_no rfl) (some 3) rfl (.bool true) (fun _ => by kernel_rfl) ?_
          refine pl_nil ?_
          refine au_then ?_
          refine wp_ret ?_
          have e0 : ((lk4 s).getD 0) = (q4 l1 4) := by rw [(show lk4 s = some (q4 l1 4) by unfold lk4; rw [hN1]; exact if_pos (by omega))]; rfl
          have e1 : (lk4 s).isSome = true := by rw [(show lk4 s = some (q4 l1 4) by unfold lk4; rw [hN1]; exact if_pos (by omega))]; rfl
          exact bodyPost_ret (v := .tuple #[.agg (av 3 (ls [.bool false, .int .u64 0, .int .u64 (q4 l1 4)])), .bool true]) (results_cell_tmp Tryz.results70 _ _ g1 24 (av 3 (ls [.bool false, .int .u64 0, .int .u64 (q4 l1 4)])) (0, 0) _ _ (by kernel_rfl) (by kernel_rfl) (M.get 0 rfl) Tryz.underlying24 rfl (by rw [av_size]; exact inz24)) (by kernel_rfl) ⟨by rw [e0, e1], below_grown M.old⟩
      · skip
        refine pl_val (want_on 2 false rfl 16 rfl (by kernel_rfl)) (some 19) rfl (.bool true) (fun w => Eq.trans (b := .ok (.value (.bool (!(decide (((l1.length : Nat) : Int) = 4))))) w) (by kernel_rfl) (by rw [decide_eq_false (c2)]; rfl)) ?_
        refine pl_val (want_no rfl) (some 20) rfl (.bool true) (fun _ => by kernel_rfl) ?_
        refine pl_nil ?_
        refine au_then ?_
        refine wp_cond_true (by kernel_rfl) ?_
        refine wp_seq ?_
        refine rg_lit ?_
        refine pl_val (want_no rfl) (some 21) rfl (.agg (av 3 (ls [.bool false, .int .u64 0, .int .u64 0]))) (fun _ => by kernel_rfl) ?_
        refine pl_put M (want_no rfl) rfl 24 _ _ rfl 0 g1 0 (by kernel_rfl) 3 24 (ls [.bool false, .int .u64 0, .int .u64 0]) rfl 3 (ls [.bool false, .int .u64 0, .int .u64 0]) (ls [.bool false, .int .u64 0, .int .u64 0]) (by kernel_rfl) inz24 (by decide) (one_ls _ rfl) (fun j hj => by rw [if_pos (by omega), Nat.sub_zero]) ?_
        intro u3 M
        replace M : Mem ⟨w, []⟩ [⟨g1, .cells (av 3 (ls [.bool false, .int .u64 0, .int .u64 0])) 24⟩, ⟨gl1, Z1⟩] u3 := M
        refine pl_val (want_no rfl) (some 3) rfl (.bool false) (fun _ => by kernel_rfl) ?_
        refine pl_nil ?_
        refine au_then ?_
        refine wp_ret ?_
        refine au_then_ret ?_
        have e0 : ((lk4 s).getD 0) = 0 := by rw [(show lk4 s = none by unfold lk4; rw [hN1]; exact if_neg (by omega))]; rfl
        have e1 : (lk4 s).isSome = false := by rw [(show lk4 s = none by unfold lk4; rw [hN1]; exact if_neg (by omega))]; rfl
        exact bodyPost_ret (v := .tuple #[.agg (av 3 (ls [.bool false, .int .u64 0, .int .u64 0])), .bool false]) (results_cell_tmp Tryz.results70 _ _ g1 24 (av 3 (ls [.bool false, .int .u64 0, .int .u64 0])) (0, 0) _ _ (by kernel_rfl) (by kernel_rfl) (M.get 0 rfl) Tryz.underlying24 rfl (by rw [av_size]; exact inz24)) (by kernel_rfl) ⟨by rw [e0, e1], below_grown M.old⟩

theorem nbs_len {b m : Int} {s sep : ByteArray} {l : List Int} (hs : s.size ≤ 1000) (h1 : 1 ≤ sep.size) (h : nbs b m s sep = some l) : l.length ≤ 1001 := by
  unfold nbs at h
  split at h
  · cases h
    decide
  · have := nl_len h
    have := spl_le s sep h1
    omega
set_option maxRecDepth 100000 in
set_option maxHeartbeats 4000000 in
set_option linter.unusedSimpArgs false in
theorem c_likely6 (s : ByteArray) (hs : s.size ≤ 1000) (w : World) (hL : Laid w)  :
    Calls Tryz.prog 69 #[.string s] w fun r w' => r = .returned (.tuple #[.agg (av 3 (ls [.bool ((lk6 s).isSome), .int .u64 ((lk6 s).getD (0, 0)).1, .int .u64 ((lk6 s).getD (0, 0)).2])), .bool ((lk6 s).isSome)]) ∧ Below w.heap.size w w' := by
  go_enter Tryz.func69, Tryz.ntmps69
  have M := Mem.start hL
  have hl1 : ∀ l, nbs 16 65535 (cuA s ⟨#[58, 58]⟩) ⟨#[58]⟩ = some l → l.length ≤ 1001 := fun l h => nbs_len (by have := cuA_le s ⟨#[58, 58]⟩; omega) (by decide) h
  have hl2 : ∀ l, nbs 16 65535 (cuB s ⟨#[58, 58]⟩) ⟨#[58]⟩ = some l → l.length ≤ 1001 := fun l h => nbs_len (by have := cuB_le s ⟨#[58, 58]⟩; omega) (by decide) h
  refine wp_seq ?_
  refine rg_lit ?_
  refine pl_new M (want_no rfl) (some 2) rfl (.cells (av 3 (ls [.bool false, .int .u64 0, .int .u64 0])) 24) (fun _ => by kernel_rfl) ?_
  intro g1 u1 M
  replace M : Mem ⟨w, []⟩ [⟨g1, .cells (av 3 (ls [.bool false, .int .u64 0, .int .u64 0])) 24⟩] u1 := M
  refine pl_val (want_no rfl) (some 3) rfl (.bool false) (fun _ => by kernel_rfl) ?_
  refine pl_nil ?_
  refine au_then ?_
  refine wp_seq ?_
  refine rg_lit ?_
  refine pl_val (want_no rfl) (some 13) rfl (.string s) (fun _ => by kernel_rfl) ?_
  refine pl_call M (want_no rfl) (some 14) rfl 46 #[.string s, .string ⟨#[58, 58]⟩] (.tuple #[.string (cuA s ⟨#[58, 58]⟩), .string (cuB s ⟨#[58, 58]⟩), .bool (cuC s ⟨#[58, 58]⟩)]) (fun _ => by kernel_rfl) (fun w M => c_Cut s ⟨#[58, 58]⟩ (by omega) w M.laid) ?_
  intro u2 M
  refine pl_val (want_no rfl) (some 12) rfl (.tuple #[.string (cuA s ⟨#[58, 58]⟩), .string (cuB s ⟨#[58, 58]⟩), .bool (cuC s ⟨#[58, 58]⟩)]) (fun _ => by kernel_rfl) ?_
  refine pl_val (want_no rfl) (some 15) rfl (.string (cuA s ⟨#[58, 58]⟩)) (fun _ => by kernel_rfl) ?_
  refine pl_val (want_no rfl) (some 16) rfl (.string (cuB s ⟨#[58, 58]⟩)) (fun _ => by kernel_rfl) ?_
  refine pl_val (want_no rfl) (some 17) rfl (.bool (cuC s ⟨#[58, 58]⟩)) (fun _ => by kernel_rfl) ?_
  refine pl_val (want_no rfl) (some 4) rfl (.string (cuA s ⟨#[58, 58]⟩)) (fun _ => by kernel_rfl) ?_
  refine pl_val (want_no rfl) (some 5) rfl (.string (cuB s ⟨#[58, 58]⟩)) (fun _ => by kernel_rfl) ?_
  refine pl_val (want_no rfl) (some 6) rfl (.bool (cuC s ⟨#[58, 58]⟩)) (fun _ => by kernel_rfl) ?_
  refine pl_nil ?_
  refine au_then ?_
  refine wp_seq ?_
  refine rg_lit ?_
  refine pl_val (want_no rfl) (some 19) rfl (.string (cuA s ⟨#[58, 58]⟩)) (fun _ => by kernel_rfl) ?_
  rcases hN1 : nbs 16 65535 (cuA s ⟨#[58, 58]⟩) ⟨#[58]⟩ with _ | l1
  · skip
    refine pl_call M (want_no rfl) (some 20) rfl 89 #[.string (cuA s ⟨#[58, 58]⟩), .string ⟨#[58]⟩, .int .i64 16, .int .i64 16] (.tuple #[.slice none 0 0, .bool false]) (fun _ => by kernel_rfl) (fun w M => c_nums16N (cuA s ⟨#[58, 58]⟩) ⟨#[58]⟩ (by have := cuA_le s ⟨#[58, 58]⟩; omega) (by decide) hN1 w M.laid) ?_
    intro u3 M
    refine pl_val (want_no rfl) (some 18) rfl (.tuple #[.slice none 0 0, .bool false]) (fun _ => by kernel_rfl) ?_
    refine pl_val (want_no rfl) (some 21) rfl (.slice none 0 0) (fun _ => by kernel_rfl) ?_
    refine pl_val (want_no rfl) (some 22) rfl (.bool false) (fun _ => by kernel_rfl) ?_
    refine pl_val (want_no rfl) (some 7) rfl (.slice none 0 0) (fun _ => by kernel_rfl) ?_
    refine pl_val (want_no rfl) (some 8) rfl (.bool false) (fun _ => by kernel_rfl) ?_
    refine pl_nil ?_
    refine au_then ?_
    refine wp_seq ?_
    refine rg_lit ?_
    refine pl_val (want_no rfl) (some 24) rfl (.string (cuB s ⟨#[58, 58]⟩)) (fun _ => by kernel_rfl) ?_
    rcases hN2 : nbs 16 65535 (cuB s ⟨#[58, 58]⟩) ⟨#[58]⟩ with _ | l2
    · skip
      refine pl_call M (want_no rfl) (some 25) rfl 89 #[.string (cuB s ⟨#[58, 58]⟩), .string ⟨#[58]⟩, .int .i64 16, .int .i64 16] (.tuple #[.slice none 0 0, .bool false]) (fun _ => by kernel_rfl) (fun w M => c_nums16N (cuB s ⟨#[58, 58]⟩) ⟨#[58]⟩ (by have := cuB_le s ⟨#[58, 58]⟩; omega) (by decide) hN2 w M.laid) ?_
      intro u4 M
      refine pl_val (want_no rfl) (some 23) rfl (.tuple #[.slice none 0 0, .bool false]) (fun _ => by kernel_rfl) ?_
      refine pl_val (want_no rfl) (some 26) rfl (.slice none 0 0) (fun _ => by kernel_rfl) ?_
      refine pl_val (want_no rfl) (some 27) rfl (.bool false) (fun _ => by kernel_rfl) ?_
      refine pl_val (want_no rfl) (some 9) rfl (.slice none 0 0) (fun _ => by kernel_rfl) ?_
      refine pl_val (want_no rfl) (some 10) rfl (.bool false) (fun _ => by kernel_rfl) ?_
      refine pl_nil ?_
      refine au_then ?_
      refine wp_seq ?_
      refine rg_lit ?_
      refine pl_new M (want_no rfl) (some 11) rfl (.cells (av 8 (w16 (fun _ => 0))) 94) (fun _ => by kernel_rfl) ?_
      intro g2 u5 M
      replace M : Mem ⟨w, []⟩ [⟨g1, .cells (av 3 (ls [.bool false, .int .u64 0, .int .u64 0])) 24⟩, ⟨g2, .cells (av 8 (w16 (fun _ => 0))) 94⟩] u5 := M
      refine pl_nil ?_
      refine au_then ?_
      refine wp_seq ?_
      refine wp_seq ?_
      refine rg_lit ?_
      refine pl_val (want_no rfl) (some 28) rfl (.bool false) (fun _ => by kernel_rfl) ?_
      refine pl_val (want_no rfl) (some 29) rfl (.bool true) (fun _ => by kernel_rfl) ?_
      refine pl_val (want_no rfl) (some 30) rfl (.bool true) (fun _ => by kernel_rfl) ?_
      refine pl_skip (want_off 2 false rfl 30 rfl (by kernel_rfl)) (some 31) rfl ?_
      refine pl_skip (want_off 2 false rfl 30 rfl (by kernel_rfl)) (some 32) rfl ?_
      refine pl_val (want_no rfl) (some 33) rfl (.bool true) (fun _ => by kernel_rfl) ?_
      refine pl_val (want_no rfl) (some 34) rfl (.bool true) (fun _ => by kernel_rfl) ?_
      refine pl_skip (want_off 6 false rfl 34 rfl (by kernel_rfl)) (some 35) rfl ?_
      refine pl_skip (want_off 6 false rfl 34 rfl (by kernel_rfl)) (some 36) rfl ?_
      refine pl_skip (want_off 6 false rfl 34 rfl (by kernel_rfl)) (some 37) rfl ?_
      refine pl_skip (want_off 6 false rfl 34 rfl (by kernel_rfl)) (some 38) rfl ?_
      refine pl_skip (want_off 6 false rfl 34 rfl (by kernel_rfl)) (some 39) rfl ?_
      refine pl_skip (want_off 6 false rfl 34 rfl (by kernel_rfl)) (some 40) rfl ?_
      refine pl_val (want_no rfl) (some 41) rfl (.bool true) (fun _ => by kernel_rfl) ?_
      refine pl_nil ?_
      refine au_then ?_
      refine wp_cond_true (by kernel_rfl) ?_
      refine wp_seq ?_
      refine rg_lit ?_
      refine pl_val (want_no rfl) (some 42) rfl (.agg (av 3 (ls [.bool false, .int .u64 0, .int .u64 0]))) (fun _ => by kernel_rfl) ?_
      refine pl_put M (want_no rfl) rfl 24 _ _ rfl 0 g1 0 (by kernel_rfl) 3 24 (ls [.bool false, .int .u64 0, .int .u64 0]) rfl 3 (ls [.bool false, .int .u64 0, .int .u64 0]) (ls [.bool false, .int .u64 0, .int .u64 0]) (by kernel_rfl) inz24 (by decide) (one_ls _ rfl) (fun j hj => by rw [if_pos (by omega), Nat.sub_zero]) ?_
      intro u6 M
      replace M : Mem ⟨w, []⟩ [⟨g1, .cells (av 3 (ls [.bool false, .int .u64 0, .int .u64 0])) 24⟩, ⟨g2, .cells (av 8 (w16 (fun _ => 0))) 94⟩] u6 := M
      refine pl_val (want_no rfl) (some 3) rfl (.bool false) (fun _ => by kernel_rfl) ?_
      refine pl_nil ?_
      refine au_then ?_
      refine wp_ret ?_
      refine au_then_ret ?_
      have e0 : (lk6 s).isSome = false := by rw [(show lk6 s = none by unfold lk6; rw [hN1, hN2])]; rfl
      have e1 : ((lk6 s).getD (0, 0)).1 = 0 := by rw [(show lk6 s = none by unfold lk6; rw [hN1, hN2])]; rfl
      have e2 : ((lk6 s).getD (0, 0)).2 = 0 := by rw [(show lk6 s = none by unfold lk6; rw [hN1, hN2])]; rfl
      exact bodyPost_ret (v := .tuple #[.agg (av 3 (ls [.bool false, .int .u64 0, .int .u64 0])), .bool false]) (results_cell_tmp Tryz.results69 _ _ g1 24 (av 3 (ls [.bool false, .int .u64 0, .int .u64 0])) (0, 0) _ _ (by kernel_rfl) (by kernel_rfl) (M.get 0 rfl) Tryz.underlying24 rfl (by rw [av_size]; exact inz24)) (by kernel_rfl) ⟨by rw [e0, e1, e2], below_grown M.old⟩
    · skip
      by_cases he2 : l2 = []
      · skip
        subst he2
        refine pl_call M (want_no rfl) (some 25) rfl 89 #[.string (cuB s ⟨#[58, 58]⟩), .string ⟨#[58]⟩, .int .i64 16, .int .i64 16] (.tuple #[.slice none 0 0, .bool true]) (fun _ => by kernel_rfl) (fun w M => c_nums16E (cuB s ⟨#[58, 58]⟩) ⟨#[58]⟩ (by have := cuB_le s ⟨#[58, 58]⟩; omega) (by decide) hN2 w M.laid) ?_
        intro u4 M
        refine pl_val (want_no rfl) (some 23) rfl (.tuple #[.slice none 0 0, .bool true]) (fun _ => by kernel_rfl) ?_
        refine pl_val (want_no rfl) (some 26) rfl (.slice none 0 0) (fun _ => by kernel_rfl) ?_
        refine pl_val (want_no rfl) (some 27) rfl (.bool true) (fun _ => by kernel_rfl) ?_
        refine pl_val (want_no rfl) (some 9) rfl (.slice none 0 0) (fun _ => by kernel_rfl) ?_
        refine pl_val (want_no rfl) (some 10) rfl (.bool true) (fun _ => by kernel_rfl) ?_
        refine pl_nil ?_
        refine au_then ?_
        refine wp_seq ?_
        refine rg_lit ?_
        refine pl_new M (want_no rfl) (some 11) rfl (.cells (av 8 (w16 (fun _ => 0))) 94) (fun _ => by kernel_rfl) ?_
        intro g2 u5 M
        replace M : Mem ⟨w, []⟩ [⟨g1, .cells (av 3 (ls [.bool false, .int .u64 0, .int .u64 0])) 24⟩, ⟨g2, .cells (av 8 (w16 (fun _ => 0))) 94⟩] u5 := M
        refine pl_nil ?_
        refine au_then ?_
        refine wp_seq ?_
        refine wp_seq ?_
        refine rg_lit ?_
        refine pl_val (want_no rfl) (some 28) rfl (.bool false) (fun _ => by kernel_rfl) ?_
        refine pl_val (want_no rfl) (some 29) rfl (.bool true) (fun _ => by kernel_rfl) ?_
        refine pl_val (want_no rfl) (some 30) rfl (.bool true) (fun _ => by kernel_rfl) ?_
        refine pl_skip (want_off 2 false rfl 30 rfl (by kernel_rfl)) (some 31) rfl ?_
        refine pl_skip (want_off 2 false rfl 30 rfl (by kernel_rfl)) (some 32) rfl ?_
        refine pl_val (want_no rfl) (some 33) rfl (.bool true) (fun _ => by kernel_rfl) ?_
        refine pl_val (want_no rfl) (some 34) rfl (.bool true) (fun _ => by kernel_rfl) ?_
        refine pl_skip (want_off 6 false rfl 34 rfl (by kernel_rfl)) (some 35) rfl ?_
        refine pl_skip (want_off 6 false rfl 34 rfl (by kernel_rfl)) (some 36) rfl ?_
        refine pl_skip (want_off 6 false rfl 34 rfl (by kernel_rfl)) (some 37) rfl ?_
        refine pl_skip (want_off 6 false rfl 34 rfl (by kernel_rfl)) (some 38) rfl ?_
        refine pl_skip (want_off 6 false rfl 34 rfl (by kernel_rfl)) (some 39) rfl ?_
        refine pl_skip (want_off 6 false rfl 34 rfl (by kernel_rfl)) (some 40) rfl ?_
        refine pl_val (want_no rfl) (some 41) rfl (.bool true) (fun _ => by kernel_rfl) ?_
        refine pl_nil ?_
        refine au_then ?_
        refine wp_cond_true (by kernel_rfl) ?_
        refine wp_seq ?_
        refine rg_lit ?_
        refine pl_val (want_no rfl) (some 42) rfl (.agg (av 3 (ls [.bool false, .int .u64 0, .int .u64 0]))) (fun _ => by kernel_rfl) ?_
        refine pl_put M (want_no rfl) rfl 24 _ _ rfl 0 g1 0 (by kernel_rfl) 3 24 (ls [.bool false, .int .u64 0, .int .u64 0]) rfl 3 (ls [.bool false, .int .u64 0, .int .u64 0]) (ls [.bool false, .int .u64 0, .int .u64 0]) (by kernel_rfl) inz24 (by decide) (one_ls _ rfl) (fun j hj => by rw [if_pos (by omega), Nat.sub_zero]) ?_
        intro u6 M
        replace M : Mem ⟨w, []⟩ [⟨g1, .cells (av 3 (ls [.bool false, .int .u64 0, .int .u64 0])) 24⟩, ⟨g2, .cells (av 8 (w16 (fun _ => 0))) 94⟩] u6 := M
        refine pl_val (want_no rfl) (some 3) rfl (.bool false) (fun _ => by kernel_rfl) ?_
        refine pl_nil ?_
        refine au_then ?_
        refine wp_ret ?_
        refine au_then_ret ?_
        have e0 : (lk6 s).isSome = false := by rw [(show lk6 s = none by unfold lk6; rw [hN1, hN2])]; rfl
        have e1 : ((lk6 s).getD (0, 0)).1 = 0 := by rw [(show lk6 s = none by unfold lk6; rw [hN1, hN2])]; rfl
        have e2 : ((lk6 s).getD (0, 0)).2 = 0 := by rw [(show lk6 s = none by unfold lk6; rw [hN1, hN2])]; rfl
        exact bodyPost_ret (v := .tuple #[.agg (av 3 (ls [.bool false, .int .u64 0, .int .u64 0])), .bool false]) (results_cell_tmp Tryz.results69 _ _ g1 24 (av 3 (ls [.bool false, .int .u64 0, .int .u64 0])) (0, 0) _ _ (by kernel_rfl) (by kernel_rfl) (M.get 0 rfl) Tryz.underlying24 rfl (by rw [av_size]; exact inz24)) (by kernel_rfl) ⟨by rw [e0, e1, e2], below_grown M.old⟩
      · skip
        refine pl_callL M (want_no rfl) (some 25) rfl 89 #[.string (cuB s ⟨#[58, 58]⟩), .string ⟨#[58]⟩, .int .i64 16, .int .i64 16] (fun g cap => .tuple #[.slice (some ⟨g, 0, none⟩) l2.length cap, .bool true]) (fun cap Z => SB Z cap (v16 l2)) (fun _ => by kernel_rfl) (fun w M => c_nums16L (cuB s ⟨#[58, 58]⟩) ⟨#[58]⟩ (by have := cuB_le s ⟨#[58, 58]⟩; omega) (by decide) l2 he2 hN2 w M.laid) ?_
        intro gl2 cp2 Z2 u4 hZ2 M
        replace M : Mem ⟨w, []⟩ [⟨g1, .cells (av 3 (ls [.bool false, .int .u64 0, .int .u64 0])) 24⟩, ⟨gl2, Z2⟩] u4 := M
        refine pl_val (want_no rfl) (some 23) rfl (.tuple #[.slice (some ⟨gl2, 0, none⟩) l2.length cp2, .bool true]) (fun _ => by kernel_rfl) ?_
        refine pl_val (want_no rfl) (some 26) rfl (.slice (some ⟨gl2, 0, none⟩) l2.length cp2) (fun _ => by kernel_rfl) ?_
        refine pl_val (want_no rfl) (some 27) rfl (.bool true) (fun _ => by kernel_rfl) ?_
        refine pl_val (want_no rfl) (some 9) rfl (.slice (some ⟨gl2, 0, none⟩) l2.length cp2) (fun _ => by kernel_rfl) ?_
        refine pl_val (want_no rfl) (some 10) rfl (.bool true) (fun _ => by kernel_rfl) ?_
        refine pl_nil ?_
        refine au_then ?_
        refine wp_seq ?_
        refine rg_lit ?_
        refine pl_new M (want_no rfl) (some 11) rfl (.cells (av 8 (w16 (fun _ => 0))) 94) (fun _ => by kernel_rfl) ?_
        intro g2 u5 M
        replace M : Mem ⟨w, []⟩ [⟨g1, .cells (av 3 (ls [.bool false, .int .u64 0, .int .u64 0])) 24⟩, ⟨gl2, Z2⟩, ⟨g2, .cells (av 8 (w16 (fun _ => 0))) 94⟩] u5 := M
        refine pl_nil ?_
        refine au_then ?_
        refine wp_seq ?_
        refine wp_seq ?_
        refine rg_lit ?_
        refine pl_val (want_no rfl) (some 28) rfl (.bool false) (fun _ => by kernel_rfl) ?_
        refine pl_val (want_no rfl) (some 29) rfl (.bool true) (fun _ => by kernel_rfl) ?_
        refine pl_val (want_no rfl) (some 30) rfl (.bool true) (fun _ => by kernel_rfl) ?_
        refine pl_skip (want_off 2 false rfl 30 rfl (by kernel_rfl)) (some 31) rfl ?_
        refine pl_skip (want_off 2 false rfl 30 rfl (by kernel_rfl)) (some 32) rfl ?_
        refine pl_val (want_no rfl) (some 33) rfl (.bool true) (fun _ => by kernel_rfl) ?_
        refine pl_val (want_no rfl) (some 34) rfl (.bool true) (fun _ => by kernel_rfl) ?_
        refine pl_skip (want_off 6 false rfl 34 rfl (by kernel_rfl)) (some 35) rfl ?_
        refine pl_skip (want_off 6 false rfl 34 rfl (by kernel_rfl)) (some 36) rfl ?_
        refine pl_skip (want_off 6 false rfl 34 rfl (by kernel_rfl)) (some 37) rfl ?_
        refine pl_skip (want_off 6 false rfl 34 rfl (by kernel_rfl)) (some 38) rfl ?_
        refine pl_skip (want_off 6 false rfl 34 rfl (by kernel_rfl)) (some 39) rfl ?_
        refine pl_skip (want_off 6 false rfl 34 rfl (by kernel_rfl)) (some 40) rfl ?_
        refine pl_val (want_no rfl) (some 41) rfl (.bool true) (fun _ => by kernel_rfl) ?_
        refine pl_nil ?_
        refine au_then ?_
        refine wp_cond_true (by kernel_rfl) ?_
        refine wp_seq ?_
        refine rg_lit ?_
        refine pl_val (want_no rfl) (some 42) rfl (.agg (av 3 (ls [.bool false, .int .u64 0, .int .u64 0]))) (fun _ => by kernel_rfl) ?_
        refine pl_put M (want_no rfl) rfl 24 _ _ rfl 0 g1 0 (by kernel_rfl) 3 24 (ls [.bool false, .int .u64 0, .int .u64 0]) rfl 3 (ls [.bool false, .int .u64 0, .int .u64 0]) (ls [.bool false, .int .u64 0, .int .u64 0]) (by kernel_rfl) inz24 (by decide) (one_ls _ rfl) (fun j hj => by rw [if_pos (by omega), Nat.sub_zero]) ?_
        intro u6 M
        replace M : Mem ⟨w, []⟩ [⟨g1, .cells (av 3 (ls [.bool false, .int .u64 0, .int .u64 0])) 24⟩, ⟨gl2, Z2⟩, ⟨g2, .cells (av 8 (w16 (fun _ => 0))) 94⟩] u6 := M
        refine pl_val (want_no rfl) (some 3) rfl (.bool false) (fun _ => by kernel_rfl) ?_
        refine pl_nil ?_
        refine au_then ?_
        refine wp_ret ?_
        refine au_then_ret ?_
        have e0 : (lk6 s).isSome = false := by rw [(show lk6 s = none by unfold lk6; rw [hN1, hN2])]; rfl
        have e1 : ((lk6 s).getD (0, 0)).1 = 0 := by rw [(show lk6 s = none by unfold lk6; rw [hN1, hN2])]; rfl
        have e2 : ((lk6 s).getD (0, 0)).2 = 0 := by rw [(show lk6 s = none by unfold lk6; rw [hN1, hN2])]; rfl
        exact bodyPost_ret (v := .tuple #[.agg (av 3 (ls [.bool false, .int .u64 0, .int .u64 0])), .bool false]) (results_cell_tmp Tryz.results69 _ _ g1 24 (av 3 (ls [.bool false, .int .u64 0, .int .u64 0])) (0, 0) _ _ (by kernel_rfl) (by kernel_rfl) (M.get 0 rfl) Tryz.underlying24 rfl (by rw [av_size]; exact inz24)) (by kernel_rfl) ⟨by rw [e0, e1, e2], below_grown M.old⟩
  · skip
    by_cases he1 : l1 = []
    · skip
      subst he1
      refine pl_call M (want_no rfl) (some 20) rfl 89 #[.string (cuA s ⟨#[58, 58]⟩), .string ⟨#[58]⟩, .int .i64 16, .int .i64 16] (.tuple #[.slice none 0 0, .bool true]) (fun _ => by kernel_rfl) (fun w M => c_nums16E (cuA s ⟨#[58, 58]⟩) ⟨#[58]⟩ (by have := cuA_le s ⟨#[58, 58]⟩; omega) (by decide) hN1 w M.laid) ?_
      intro u3 M
      refine pl_val (want_no rfl) (some 18) rfl (.tuple #[.slice none 0 0, .bool true]) (fun _ => by kernel_rfl) ?_
      refine pl_val (want_no rfl) (some 21) rfl (.slice none 0 0) (fun _ => by kernel_rfl) ?_
      refine pl_val (want_no rfl) (some 22) rfl (.bool true) (fun _ => by kernel_rfl) ?_
      refine pl_val (want_no rfl) (some 7) rfl (.slice none 0 0) (fun _ => by kernel_rfl) ?_
      refine pl_val (want_no rfl) (some 8) rfl (.bool true) (fun _ => by kernel_rfl) ?_
      refine pl_nil ?_
      refine au_then ?_
      refine wp_seq ?_
      refine rg_lit ?_
      refine pl_val (want_no rfl) (some 24) rfl (.string (cuB s ⟨#[58, 58]⟩)) (fun _ => by kernel_rfl) ?_
      rcases hN2 : nbs 16 65535 (cuB s ⟨#[58, 58]⟩) ⟨#[58]⟩ with _ | l2
      · skip
        refine pl_call M (want_no rfl) (some 25) rfl 89 #[.string (cuB s ⟨#[58, 58]⟩), .string ⟨#[58]⟩, .int .i64 16, .int .i64 16] (.tuple #[.slice none 0 0, .bool false]) (fun _ => by kernel_rfl) (fun w M => c_nums16N (cuB s ⟨#[58, 58]⟩) ⟨#[58]⟩ (by have := cuB_le s ⟨#[58, 58]⟩; omega) (by decide) hN2 w M.laid) ?_
        intro u4 M
        refine pl_val (want_no rfl) (some 23) rfl (.tuple #[.slice none 0 0, .bool false]) (fun _ => by kernel_rfl) ?_
        refine pl_val (want_no rfl) (some 26) rfl (.slice none 0 0) (fun _ => by kernel_rfl) ?_
        refine pl_val (want_no rfl) (some 27) rfl (.bool false) (fun _ => by kernel_rfl) ?_
        refine pl_val (want_no rfl) (some 9) rfl (.slice none 0 0) (fun _ => by kernel_rfl) ?_
        refine pl_val (want_no rfl) (some 10) rfl (.bool false) (fun _ => by kernel_rfl) ?_
        refine pl_nil ?_
        refine au_then ?_
        refine wp_seq ?_
        refine rg_lit ?_
        refine pl_new M (want_no rfl) (some 11) rfl (.cells (av 8 (w16 (fun _ => 0))) 94) (fun _ => by kernel_rfl) ?_
        intro g2 u5 M
        replace M : Mem ⟨w, []⟩ [⟨g1, .cells (av 3 (ls [.bool false, .int .u64 0, .int .u64 0])) 24⟩, ⟨g2, .cells (av 8 (w16 (fun _ => 0))) 94⟩] u5 := M
        refine pl_nil ?_
        refine au_then ?_
        refine wp_seq ?_
        refine wp_seq ?_
        refine rg_lit ?_
        refine pl_val (want_no rfl) (some 28) rfl (.bool true) (fun _ => by kernel_rfl) ?_
        refine pl_val (want_no rfl) (some 29) rfl (.bool false) (fun _ => by kernel_rfl) ?_
        refine pl_val (want_no rfl) (some 30) rfl (.bool false) (fun _ => by kernel_rfl) ?_
        refine pl_val (want_on 2 false rfl 30 rfl (by kernel_rfl)) (some 31) rfl (.bool false) (fun _ => by kernel_rfl) ?_
        refine pl_val (want_on 2 false rfl 30 rfl (by kernel_rfl)) (some 32) rfl (.bool true) (fun _ => by kernel_rfl) ?_
        refine pl_val (want_no rfl) (some 33) rfl (.bool true) (fun _ => by kernel_rfl) ?_
        refine pl_val (want_no rfl) (some 34) rfl (.bool true) (fun _ => by kernel_rfl) ?_
        refine pl_skip (want_off 6 false rfl 34 rfl (by kernel_rfl)) (some 35) rfl ?_
        refine pl_skip (want_off 6 false rfl 34 rfl (by kernel_rfl)) (some 36) rfl ?_
        refine pl_skip (want_off 6 false rfl 34 rfl (by kernel_rfl)) (some 37) rfl ?_
        refine pl_skip (want_off 6 false rfl 34 rfl (by kernel_rfl)) (some 38) rfl ?_
        refine pl_skip (want_off 6 false rfl 34 rfl (by kernel_rfl)) (some 39) rfl ?_
        refine pl_skip (want_off 6 false rfl 34 rfl (by kernel_rfl)) (some 40) rfl ?_
        refine pl_val (want_no rfl) (some 41) rfl (.bool true) (fun _ => by kernel_rfl) ?_
        refine pl_nil ?_
        refine au_then ?_
        refine wp_cond_true (by kernel_rfl) ?_
        refine wp_seq ?_
        refine rg_lit ?_
        refine pl_val (want_no rfl) (some 42) rfl (.agg (av 3 (ls [.bool false, .int .u64 0, .int .u64 0]))) (fun _ => by kernel_rfl) ?_
        refine pl_put M (want_no rfl) rfl 24 _ _ rfl 0 g1 0 (by kernel_rfl) 3 24 (ls [.bool false, .int .u64 0, .int .u64 0]) rfl 3 (ls [.bool false, .int .u64 0, .int .u64 0]) (ls [.bool false, .int .u64 0, .int .u64 0]) (by kernel_rfl) inz24 (by decide) (one_ls _ rfl) (fun j hj => by rw [if_pos (by omega), Nat.sub_zero]) ?_
        intro u6 M
        replace M : Mem ⟨w, []⟩ [⟨g1, .cells (av 3 (ls [.bool false, .int .u64 0, .int .u64 0])) 24⟩, ⟨g2, .cells (av 8 (w16 (fun _ => 0))) 94⟩] u6 := M
        refine pl_val (want_no rfl) (some 3) rfl (.bool false) (fun _ => by kernel_rfl) ?_
        refine pl_nil ?_
        refine au_then ?_
        refine wp_ret ?_
        refine au_then_ret ?_
        have e0 : (lk6 s).isSome = false := by rw [(show lk6 s = none by unfold lk6; rw [hN1, hN2])]; rfl
        have e1 : ((lk6 s).getD (0, 0)).1 = 0 := by rw [(show lk6 s = none by unfold lk6; rw [hN1, hN2])]; rfl
        have e2 : ((lk6 s).getD (0, 0)).2 = 0 := by rw [(show lk6 s = none by unfold lk6; rw [hN1, hN2])]; rfl
        exact bodyPost_ret (v := .tuple #[.agg (av 3 (ls [.bool false, .int .u64 0, .int .u64 0])), .bool false]) (results_cell_tmp Tryz.results69 _ _ g1 24 (av 3 (ls [.bool false, .int .u64 0, .int .u64 0])) (0, 0) _ _ (by kernel_rfl) (by kernel_rfl) (M.get 0 rfl) Tryz.underlying24 rfl (by rw [av_size]; exact inz24)) (by kernel_rfl) ⟨by rw [e0, e1, e2], below_grown M.old⟩
      · skip
        by_cases he2 : l2 = []
        · skip
          subst he2
          refine pl_call M (want_no rfl) (some 25) rfl 89 #[.string (cuB s ⟨#[58, 58]⟩), .string ⟨#[58]⟩, .int .i64 16, .int .i64 16] (.tuple #[.slice none 0 0, .bool true]) (fun _ => by kernel_rfl) (fun w M => c_nums16E (cuB s ⟨#[58, 58]⟩) ⟨#[58]⟩ (by have := cuB_le s ⟨#[58, 58]⟩; omega) (by decide) hN2 w M.laid) ?_
          intro u4 M
          refine pl_val (want_no rfl) (some 23) rfl (.tuple #[.slice none 0 0, .bool true]) (fun _ => by kernel_rfl) ?_
          refine pl_val (want_no rfl) (some 26) rfl (.slice none 0 0) (fun _ => by kernel_rfl) ?_
          refine pl_val (want_no rfl) (some 27) rfl (.bool true) (fun _ => by kernel_rfl) ?_
          refine pl_val (want_no rfl) (some 9) rfl (.slice none 0 0) (fun _ => by kernel_rfl) ?_
          refine pl_val (want_no rfl) (some 10) rfl (.bool true) (fun _ => by kernel_rfl) ?_
          refine pl_nil ?_
          refine au_then ?_
          refine wp_seq ?_
          refine rg_lit ?_
          refine pl_new M (want_no rfl) (some 11) rfl (.cells (av 8 (w16 (fun _ => 0))) 94) (fun _ => by kernel_rfl) ?_
          intro g2 u5 M
          replace M : Mem ⟨w, []⟩ [⟨g1, .cells (av 3 (ls [.bool false, .int .u64 0, .int .u64 0])) 24⟩, ⟨g2, .cells (av 8 (w16 (fun _ => 0))) 94⟩] u5 := M
          refine pl_nil ?_
          refine au_then ?_
          refine wp_seq ?_
          refine wp_seq ?_
          refine rg_lit ?_
          refine pl_val (want_no rfl) (some 28) rfl (.bool true) (fun _ => by kernel_rfl) ?_
          refine pl_val (want_no rfl) (some 29) rfl (.bool false) (fun _ => by kernel_rfl) ?_
          refine pl_val (want_no rfl) (some 30) rfl (.bool false) (fun _ => by kernel_rfl) ?_
          refine pl_val (want_on 2 false rfl 30 rfl (by kernel_rfl)) (some 31) rfl (.bool true) (fun _ => by kernel_rfl) ?_
          refine pl_val (want_on 2 false rfl 30 rfl (by kernel_rfl)) (some 32) rfl (.bool false) (fun _ => by kernel_rfl) ?_
          refine pl_val (want_no rfl) (some 33) rfl (.bool false) (fun _ => by kernel_rfl) ?_
          refine pl_val (want_no rfl) (some 34) rfl (.bool false) (fun _ => by kernel_rfl) ?_
          refine pl_val (want_on 6 false rfl 34 rfl (by kernel_rfl)) (some 35) rfl (.slice none 0 0) (fun _ => by kernel_rfl) ?_
          refine pl_val (want_on 6 false rfl 34 rfl (by kernel_rfl)) (some 36) rfl (.int .i64 0) (fun _ => by kernel_rfl) ?_
          refine pl_val (want_on 6 false rfl 34 rfl (by kernel_rfl)) (some 37) rfl (.slice none 0 0) (fun _ => by kernel_rfl) ?_
          refine pl_val (want_on 6 false rfl 34 rfl (by kernel_rfl)) (some 38) rfl (.int .i64 0) (fun _ => by kernel_rfl) ?_
          refine pl_val (want_on 6 false rfl 34 rfl (by kernel_rfl)) (some 39) rfl (.int .i64 0) (fun _ => by kernel_rfl) ?_
          refine pl_val (want_on 6 false rfl 34 rfl (by kernel_rfl)) (some 40) rfl (.bool false) (fun _ => by kernel_rfl) ?_
          refine pl_val (want_no rfl) (some 41) rfl (.bool false) (fun _ => by kernel_rfl) ?_
          refine pl_nil ?_
          refine au_then ?_
          refine wp_cond_false (by kernel_rfl) ?_
          refine wp_skip ?_
          refine au_then ?_
          refine wp_seq ?_
          refine rg_lit ?_
          refine pl_val (want_no rfl) (some 43) rfl (.slice (some ⟨g2, 0, none⟩) 8 8) (fun _ => by kernel_rfl) ?_
          refine pl_val (want_no rfl) (some 44) rfl (.slice none 0 0) (fun _ => by kernel_rfl) ?_
          refine pl_val (want_no rfl) (some 45) rfl (.int .i64 0) (fun _ => by kernel_rfl) ?_
          refine pl_nil ?_
          refine au_then ?_
          refine wp_seq ?_
          refine rg_lit ?_
          refine pl_val (want_no rfl) (some 46) rfl (.slice none 0 0) (fun _ => by kernel_rfl) ?_
          refine pl_val (want_no rfl) (some 47) rfl (.int .i64 0) (fun _ => by kernel_rfl) ?_
          refine pl_val (want_no rfl) (some 48) rfl (.int .i64 8) (fun _ => by kernel_rfl) ?_
          refine pl_val (want_no rfl) (some 49) rfl (.slice (some ⟨g2, 0, none⟩) 0 0) (run_slAL 94 32 Tryz.underlying94 inz32 _ _ rfl g2 (by kernel_rfl) .i64 8 (by kernel_rfl) (by decide)) ?_
          refine pl_val (want_no rfl) (some 50) rfl (.slice none 0 0) (fun _ => by kernel_rfl) ?_
          refine pl_val (want_no rfl) (some 51) rfl (.int .i64 0) (fun _ => by kernel_rfl) ?_
          refine pl_nil ?_
          refine au_then ?_
          refine wp_seq ?_
          refine rg_lit ?_
          refine pl_load M (want_no rfl) (some 52) rfl 94 _ rfl 1 g2 0 (by kernel_rfl) 8 94 (w16 (fun _ => 0)) rfl 8 (w16 (fun _ => 0)) (fun j _ => by rw [Nat.zero_add]) (by decide) _ Tryz.underlying94 rfl inz94 ?_
          refine pl_call M (want_no rfl) (some 53) rfl 90 #[.agg (av 8 (w16 (fun _ => 0)))] (.agg (av 3 (ls [.bool true, .int .u64 (adH (fun _ => 0)), .int .u64 (adL (fun _ => 0))]))) (fun _ => by kernel_rfl) (fun w M => c_addr (fun _ => 0) w M.laid) ?_
          intro u6 M
          refine pl_put M (want_no rfl) rfl 24 _ _ rfl 0 g1 0 (by kernel_rfl) 3 24 (ls [.bool false, .int .u64 0, .int .u64 0]) rfl 3 (ls [.bool true, .int .u64 (adH (fun _ => 0)), .int .u64 (adL (fun _ => 0))]) (ls [.bool true, .int .u64 (adH (fun _ => 0)), .int .u64 (adL (fun _ => 0))]) (by kernel_rfl) inz24 (by decide) (one_ls _ rfl) (fun j hj => by rw [if_pos (by omega), Nat.sub_zero]) ?_
          intro u7 M
          replace M : Mem ⟨w, []⟩ [⟨g1, .cells (av 3 (ls [.bool true, .int .u64 (adH (fun _ => 0)), .int .u64 (adL (fun _ => 0))])) 24⟩, ⟨g2, .cells (av 8 (w16 (fun _ => 0))) 94⟩] u7 := M
          refine pl_val (want_no rfl) (some 3) rfl (.bool true) (fun _ => by kernel_rfl) ?_
          refine pl_nil ?_
          refine au_then ?_
          refine wp_ret ?_
          have e0 : (lk6 s).isSome = true := by rw [(show lk6 s = some (adH (g6 [] []), adL (g6 [] [])) by unfold lk6; rw [hN1, hN2]; exact if_neg (by decide))]; rfl
          have e1 : ((lk6 s).getD (0, 0)).1 = (adH (fun _ => 0)) := by rw [(show lk6 s = some (adH (g6 [] []), adL (g6 [] [])) by unfold lk6; rw [hN1, hN2]; exact if_neg (by decide))]; show adH (g6 [] []) = _; unfold g6; rw [cpl_nil, cpl_nil]
          have e2 : ((lk6 s).getD (0, 0)).2 = (adL (fun _ => 0)) := by rw [(show lk6 s = some (adH (g6 [] []), adL (g6 [] [])) by unfold lk6; rw [hN1, hN2]; exact if_neg (by decide))]; show adL (g6 [] []) = _; unfold g6; rw [cpl_nil, cpl_nil]
          exact bodyPost_ret (v := .tuple #[.agg (av 3 (ls [.bool true, .int .u64 (adH (fun _ => 0)), .int .u64 (adL (fun _ => 0))])), .bool true]) (results_cell_tmp Tryz.results69 _ _ g1 24 (av 3 (ls [.bool true, .int .u64 (adH (fun _ => 0)), .int .u64 (adL (fun _ => 0))])) (0, 0) _ _ (by kernel_rfl) (by kernel_rfl) (M.get 0 rfl) Tryz.underlying24 rfl (by rw [av_size]; exact inz24)) (by kernel_rfl) ⟨by rw [e0, e1, e2], below_grown M.old⟩
        · skip
          refine pl_callL M (want_no rfl) (some 25) rfl 89 #[.string (cuB s ⟨#[58, 58]⟩), .string ⟨#[58]⟩, .int .i64 16, .int .i64 16] (fun g cap => .tuple #[.slice (some ⟨g, 0, none⟩) l2.length cap, .bool true]) (fun cap Z => SB Z cap (v16 l2)) (fun _ => by kernel_rfl) (fun w M => c_nums16L (cuB s ⟨#[58, 58]⟩) ⟨#[58]⟩ (by have := cuB_le s ⟨#[58, 58]⟩; omega) (by decide) l2 he2 hN2 w M.laid) ?_
          intro gl2 cp2 Z2 u4 hZ2 M
          replace M : Mem ⟨w, []⟩ [⟨g1, .cells (av 3 (ls [.bool false, .int .u64 0, .int .u64 0])) 24⟩, ⟨gl2, Z2⟩] u4 := M
          refine pl_val (want_no rfl) (some 23) rfl (.tuple #[.slice (some ⟨gl2, 0, none⟩) l2.length cp2, .bool true]) (fun _ => by kernel_rfl) ?_
          refine pl_val (want_no rfl) (some 26) rfl (.slice (some ⟨gl2, 0, none⟩) l2.length cp2) (fun _ => by kernel_rfl) ?_
          refine pl_val (want_no rfl) (some 27) rfl (.bool true) (fun _ => by kernel_rfl) ?_
          refine pl_val (want_no rfl) (some 9) rfl (.slice (some ⟨gl2, 0, none⟩) l2.length cp2) (fun _ => by kernel_rfl) ?_
          refine pl_val (want_no rfl) (some 10) rfl (.bool true) (fun _ => by kernel_rfl) ?_
          refine pl_nil ?_
          refine au_then ?_
          refine wp_seq ?_
          refine rg_lit ?_
          refine pl_new M (want_no rfl) (some 11) rfl (.cells (av 8 (w16 (fun _ => 0))) 94) (fun _ => by kernel_rfl) ?_
          intro g2 u5 M
          replace M : Mem ⟨w, []⟩ [⟨g1, .cells (av 3 (ls [.bool false, .int .u64 0, .int .u64 0])) 24⟩, ⟨gl2, Z2⟩, ⟨g2, .cells (av 8 (w16 (fun _ => 0))) 94⟩] u5 := M
          refine pl_nil ?_
          refine au_then ?_
          refine wp_seq ?_
          refine wp_seq ?_
          refine rg_lit ?_
          refine pl_val (want_no rfl) (some 28) rfl (.bool true) (fun _ => by kernel_rfl) ?_
          refine pl_val (want_no rfl) (some 29) rfl (.bool false) (fun _ => by kernel_rfl) ?_
          refine pl_val (want_no rfl) (some 30) rfl (.bool false) (fun _ => by kernel_rfl) ?_
          refine pl_val (want_on 2 false rfl 30 rfl (by kernel_rfl)) (some 31) rfl (.bool true) (fun _ => by kernel_rfl) ?_
          refine pl_val (want_on 2 false rfl 30 rfl (by kernel_rfl)) (some 32) rfl (.bool false) (fun _ => by kernel_rfl) ?_
          refine pl_val (want_no rfl) (some 33) rfl (.bool false) (fun _ => by kernel_rfl) ?_
          refine pl_val (want_no rfl) (some 34) rfl (.bool false) (fun _ => by kernel_rfl) ?_
          refine pl_val (want_on 6 false rfl 34 rfl (by kernel_rfl)) (some 35) rfl (.slice none 0 0) (fun _ => by kernel_rfl) ?_
          refine pl_val (want_on 6 false rfl 34 rfl (by kernel_rfl)) (some 36) rfl (.int .i64 0) (fun _ => by kernel_rfl) ?_
          refine pl_val (want_on 6 false rfl 34 rfl (by kernel_rfl)) (some 37) rfl (.slice (some ⟨gl2, 0, none⟩) l2.length cp2) (fun _ => by kernel_rfl) ?_
          refine pl_val (want_on 6 false rfl 34 rfl (by kernel_rfl)) (some 38) rfl (.int .i64 ((l2.length : Nat) : Int)) (fun _ => by kernel_rfl) ?_
          have hq2 := hl2 l2 hN2
          refine pl_val (want_on 6 false rfl 34 rfl (by kernel_rfl)) (some 39) rfl (.int .i64 (0 + ((l2.length : Nat) : Int))) (fun w => Eq.trans (b := .ok (.value (.int .i64 (cv .i64 (0 + ((l2.length : Nat) : Int))))) w) (by kernel_rfl) (by rw [cv_i64 (by omega) (by omega)])) ?_
          by_cases c4 : 8 < (0 + ((l2.length : Nat) : Int))
          · skip
            refine pl_val (want_on 6 false rfl 34 rfl (by kernel_rfl)) (some 40) rfl (.bool true) (fun w => Eq.trans (b := .ok (.value (.bool (decide (8 < (0 + ((l2.length : Nat) : Int)))))) w) (by kernel_rfl) (by rw [decide_eq_true (c4)])) ?_
            refine pl_val (want_no rfl) (some 41) rfl (.bool true) (fun _ => by kernel_rfl) ?_
            refine pl_nil ?_
            refine au_then ?_
            refine wp_cond_true (by kernel_rfl) ?_
            refine wp_seq ?_
            refine rg_lit ?_
            refine pl_val (want_no rfl) (some 42) rfl (.agg (av 3 (ls [.bool false, .int .u64 0, .int .u64 0]))) (fun _ => by kernel_rfl) ?_
            refine pl_put M (want_no rfl) rfl 24 _ _ rfl 0 g1 0 (by kernel_rfl) 3 24 (ls [.bool false, .int .u64 0, .int .u64 0]) rfl 3 (ls [.bool false, .int .u64 0, .int .u64 0]) (ls [.bool false, .int .u64 0, .int .u64 0]) (by kernel_rfl) inz24 (by decide) (one_ls _ rfl) (fun j hj => by rw [if_pos (by omega), Nat.sub_zero]) ?_
            intro u6 M
            replace M : Mem ⟨w, []⟩ [⟨g1, .cells (av 3 (ls [.bool false, .int .u64 0, .int .u64 0])) 24⟩, ⟨gl2, Z2⟩, ⟨g2, .cells (av 8 (w16 (fun _ => 0))) 94⟩] u6 := M
            refine pl_val (want_no rfl) (some 3) rfl (.bool false) (fun _ => by kernel_rfl) ?_
            refine pl_nil ?_
            refine au_then ?_
            refine wp_ret ?_
            refine au_then_ret ?_
            have e0 : (lk6 s).isSome = false := by rw [(show lk6 s = none by unfold lk6; rw [hN1, hN2]; exact if_pos (by simp only [List.length_nil]; omega))]; rfl
            have e1 : ((lk6 s).getD (0, 0)).1 = 0 := by rw [(show lk6 s = none by unfold lk6; rw [hN1, hN2]; exact if_pos (by simp only [List.length_nil]; omega))]; rfl
            have e2 : ((lk6 s).getD (0, 0)).2 = 0 := by rw [(show lk6 s = none by unfold lk6; rw [hN1, hN2]; exact if_pos (by simp only [List.length_nil]; omega))]; rfl
            exact bodyPost_ret (v := .tuple #[.agg (av 3 (ls [.bool false, .int .u64 0, .int .u64 0])), .bool false]) (results_cell_tmp Tryz.results69 _ _ g1 24 (av 3 (ls [.bool false, .int .u64 0, .int .u64 0])) (0, 0) _ _ (by kernel_rfl) (by kernel_rfl) (M.get 0 rfl) Tryz.underlying24 rfl (by rw [av_size]; exact inz24)) (by kernel_rfl) ⟨by rw [e0, e1, e2], below_grown M.old⟩
          · skip
            refine pl_val (want_on 6 false rfl 34 rfl (by kernel_rfl)) (some 40) rfl (.bool false) (fun w => Eq.trans (b := .ok (.value (.bool (decide (8 < (0 + ((l2.length : Nat) : Int)))))) w) (by kernel_rfl) (by rw [decide_eq_false (c4)])) ?_
            refine pl_val (want_no rfl) (some 41) rfl (.bool false) (fun _ => by kernel_rfl) ?_
            refine pl_nil ?_
            refine au_then ?_
            refine wp_cond_false (by kernel_rfl) ?_
            refine wp_skip ?_
            refine au_then ?_
            refine wp_seq ?_
            refine rg_lit ?_
            refine pl_val (want_no rfl) (some 43) rfl (.slice (some ⟨g2, 0, none⟩) 8 8) (fun _ => by kernel_rfl) ?_
            refine pl_val (want_no rfl) (some 44) rfl (.slice none 0 0) (fun _ => by kernel_rfl) ?_
            refine pl_val (want_no rfl) (some 45) rfl (.int .i64 0) (fun _ => by kernel_rfl) ?_
            refine pl_nil ?_
            refine au_then ?_
            refine wp_seq ?_
            refine rg_lit ?_
            refine pl_val (want_no rfl) (some 46) rfl (.slice (some ⟨gl2, 0, none⟩) l2.length cp2) (fun _ => by kernel_rfl) ?_
            refine pl_val (want_no rfl) (some 47) rfl (.int .i64 ((l2.length : Nat) : Int)) (fun _ => by kernel_rfl) ?_
            refine pl_val (want_no rfl) (some 48) rfl (.int .i64 ((8 - l2.length : Nat) : Int)) (fun w => Eq.trans (b := .ok (.value (.int .i64 (cv .i64 (8 - ((l2.length : Nat) : Int))))) w) (by kernel_rfl) (by rw [cv_i64 (by omega) (by omega)]; congr 3; omega)) ?_
            refine pl_val (want_no rfl) (some 49) rfl (.slice (some ⟨g2, (8 - l2.length), none⟩) (8 - (8 - l2.length)) (8 - (8 - l2.length))) (fun w => (run_slAL 94 32 Tryz.underlying94 inz32 _ _ rfl g2 (by kernel_rfl) .i64 (8 - l2.length) (by kernel_rfl) (by omega) w).trans (by rw [show so (8 - l2.length) = 8 - l2.length from if_neg (by have := List.length_pos_iff.2 he2; omega)])) ?_
            refine pl_val (want_no rfl) (some 50) rfl (.slice (some ⟨gl2, 0, none⟩) l2.length cp2) (fun _ => by kernel_rfl) ?_
            refine pl_copyC M (want_no rfl) (some 51) rfl 99 99 3 32 Tryz.underlying99 inz32 2 g2 8 94 (w16 (fun _ => 0)) rfl gl2 (w16 (tgi l2)) (8 - l2.length) (8 - (8 - l2.length)) (8 - (8 - l2.length)) 0 l2.length cp2 l2.length (by show _ = min _ _; omega) (by omega) (fun w M j hj => by rw [Nat.zero_add]; exact hZ2.cell (M.get 1 rfl) (v16_at _ _ hj)) (fun _ => rfl) (w16 (cpl (fun _ => 0) (8 - l2.length) l2)) (fun j _ => cpl_w16 _ _ _ j) (fun _ => by kernel_rfl) ?_
            intro u6 M
            replace M : Mem ⟨w, []⟩ [⟨g1, .cells (av 3 (ls [.bool false, .int .u64 0, .int .u64 0])) 24⟩, ⟨gl2, Z2⟩, ⟨g2, .cells (av 8 (w16 (cpl (fun _ => 0) (8 - l2.length) l2))) 94⟩] u6 := M
            refine pl_nil ?_
            refine au_then ?_
            refine wp_seq ?_
            refine rg_lit ?_
            refine pl_load M (want_no rfl) (some 52) rfl 94 _ rfl 2 g2 0 (by kernel_rfl) 8 94 (w16 (cpl (fun _ => 0) (8 - l2.length) l2)) rfl 8 (w16 (cpl (fun _ => 0) (8 - l2.length) l2)) (fun j _ => by rw [Nat.zero_add]) (by decide) _ Tryz.underlying94 rfl inz94 ?_
            refine pl_call M (want_no rfl) (some 53) rfl 90 #[.agg (av 8 (w16 (cpl (fun _ => 0) (8 - l2.length) l2)))] (.agg (av 3 (ls [.bool true, .int .u64 (adH (cpl (fun _ => 0) (8 - l2.length) l2)), .int .u64 (adL (cpl (fun _ => 0) (8 - l2.length) l2))]))) (fun _ => by kernel_rfl) (fun w M => c_addr (cpl (fun _ => 0) (8 - l2.length) l2) w M.laid) ?_
            intro u7 M
            refine pl_put M (want_no rfl) rfl 24 _ _ rfl 0 g1 0 (by kernel_rfl) 3 24 (ls [.bool false, .int .u64 0, .int .u64 0]) rfl 3 (ls [.bool true, .int .u64 (adH (cpl (fun _ => 0) (8 - l2.length) l2)), .int .u64 (adL (cpl (fun _ => 0) (8 - l2.length) l2))]) (ls [.bool true, .int .u64 (adH (cpl (fun _ => 0) (8 - l2.length) l2)), .int .u64 (adL (cpl (fun _ => 0) (8 - l2.length) l2))]) (by kernel_rfl) inz24 (by decide) (one_ls _ rfl) (fun j hj => by rw [if_pos (by omega), Nat.sub_zero]) ?_
            intro u8 M
            replace M : Mem ⟨w, []⟩ [⟨g1, .cells (av 3 (ls [.bool true, .int .u64 (adH (cpl (fun _ => 0) (8 - l2.length) l2)), .int .u64 (adL (cpl (fun _ => 0) (8 - l2.length) l2))])) 24⟩, ⟨gl2, Z2⟩, ⟨g2, .cells (av 8 (w16 (cpl (fun _ => 0) (8 - l2.length) l2))) 94⟩] u8 := M
            refine pl_val (want_no rfl) (some 3) rfl (.bool true) (fun _ => by kernel_rfl) ?_
            refine pl_nil ?_
            refine au_then ?_
            refine wp_ret ?_
            have e0 : (lk6 s).isSome = true := by rw [(show lk6 s = some (adH (g6 [] l2), adL (g6 [] l2)) by unfold lk6; rw [hN1, hN2]; exact if_neg (by simp only [List.length_nil]; omega))]; rfl
            have e1 : ((lk6 s).getD (0, 0)).1 = (adH (cpl (fun _ => 0) (8 - l2.length) l2)) := by rw [(show lk6 s = some (adH (g6 [] l2), adL (g6 [] l2)) by unfold lk6; rw [hN1, hN2]; exact if_neg (by simp only [List.length_nil]; omega))]; show adH (g6 [] l2) = _; unfold g6; rw [cpl_nil]
            have e2 : ((lk6 s).getD (0, 0)).2 = (adL (cpl (fun _ => 0) (8 - l2.length) l2)) := by rw [(show lk6 s = some (adH (g6 [] l2), adL (g6 [] l2)) by unfold lk6; rw [hN1, hN2]; exact if_neg (by simp only [List.length_nil]; omega))]; show adL (g6 [] l2) = _; unfold g6; rw [cpl_nil]
            exact bodyPost_ret (v := .tuple #[.agg (av 3 (ls [.bool true, .int .u64 (adH (cpl (fun _ => 0) (8 - l2.length) l2)), .int .u64 (adL (cpl (fun _ => 0) (8 - l2.length) l2))])), .bool true]) (results_cell_tmp Tryz.results69 _ _ g1 24 (av 3 (ls [.bool true, .int .u64 (adH (cpl (fun _ => 0) (8 - l2.length) l2)), .int .u64 (adL (cpl (fun _ => 0) (8 - l2.length) l2))])) (0, 0) _ _ (by kernel_rfl) (by kernel_rfl) (M.get 0 rfl) Tryz.underlying24 rfl (by rw [av_size]; exact inz24)) (by kernel_rfl) ⟨by rw [e0, e1, e2], below_grown M.old⟩
    · skip
      refine pl_callL M (want_no rfl) (some 20) rfl 89 #[.string (cuA s ⟨#[58, 58]⟩), .string ⟨#[58]⟩, .int .i64 16, .int .i64 16] (fun g cap => .tuple #[.slice (some ⟨g, 0, none⟩) l1.length cap, .bool true]) (fun cap Z => SB Z cap (v16 l1)) (fun _ => by kernel_rfl) (fun w M => c_nums16L (cuA s ⟨#[58, 58]⟩) ⟨#[58]⟩ (by have := cuA_le s ⟨#[58, 58]⟩; omega) (by decide) l1 he1 hN1 w M.laid) ?_
      intro gl1 cp1 Z1 u3 hZ1 M
      replace M : Mem ⟨w, []⟩ [⟨g1, .cells (av 3 (ls [.bool false, .int .u64 0, .int .u64 0])) 24⟩, ⟨gl1, Z1⟩] u3 := M
      refine pl_val (want_no rfl) (some 18) rfl (.tuple #[.slice (some ⟨gl1, 0, none⟩) l1.length cp1, .bool true]) (fun _ => by kernel_rfl) ?_
      refine pl_val (want_no rfl) (some 21) rfl (.slice (some ⟨gl1, 0, none⟩) l1.length cp1) (fun _ => by kernel_rfl) ?_
      refine pl_val (want_no rfl) (some 22) rfl (.bool true) (fun _ => by kernel_rfl) ?_
      refine pl_val (want_no rfl) (some 7) rfl (.slice (some ⟨gl1, 0, none⟩) l1.length cp1) (fun _ => by kernel_rfl) ?_
      refine pl_val (want_no rfl) (some 8) rfl (.bool true) (fun _ => by kernel_rfl) ?_
      refine pl_nil ?_
      refine au_then ?_
      refine wp_seq ?_
      refine rg_lit ?_
      refine pl_val (want_no rfl) (some 24) rfl (.string (cuB s ⟨#[58, 58]⟩)) (fun _ => by kernel_rfl) ?_
      rcases hN2 : nbs 16 65535 (cuB s ⟨#[58, 58]⟩) ⟨#[58]⟩ with _ | l2
      · skip
        refine pl_call M (want_no rfl) (some 25) rfl 89 #[.string (cuB s ⟨#[58, 58]⟩), .string ⟨#[58]⟩, .int .i64 16, .int .i64 16] (.tuple #[.slice none 0 0, .bool false]) (fun _ => by kernel_rfl) (fun w M => c_nums16N (cuB s ⟨#[58, 58]⟩) ⟨#[58]⟩ (by have := cuB_le s ⟨#[58, 58]⟩; omega) (by decide) hN2 w M.laid) ?_
        intro u4 M
        refine pl_val (want_no rfl) (some 23) rfl (.tuple #[.slice none 0 0, .bool false]) (fun _ => by kernel_rfl) ?_
        refine pl_val (want_no rfl) (some 26) rfl (.slice none 0 0) (fun _ => by kernel_rfl) ?_
        refine pl_val (want_no rfl) (some 27) rfl (.bool false) (fun _ => by kernel_rfl) ?_
        refine pl_val (want_no rfl) (some 9) rfl (.slice none 0 0) (fun _ => by kernel_rfl) ?_
        refine pl_val (want_no rfl) (some 10) rfl (.bool false) (fun _ => by kernel_rfl) ?_
        refine pl_nil ?_
        refine au_then ?_
        refine wp_seq ?_
        refine rg_lit ?_
        refine pl_new M (want_no rfl) (some 11) rfl (.cells (av 8 (w16 (fun _ => 0))) 94) (fun _ => by kernel_rfl) ?_
        intro g2 u5 M
        replace M : Mem ⟨w, []⟩ [⟨g1, .cells (av 3 (ls [.bool false, .int .u64 0, .int .u64 0])) 24⟩, ⟨gl1, Z1⟩, ⟨g2, .cells (av 8 (w16 (fun _ => 0))) 94⟩] u5 := M
        refine pl_nil ?_
        refine au_then ?_
        refine wp_seq ?_
        refine wp_seq ?_
        refine rg_lit ?_
        refine pl_val (want_no rfl) (some 28) rfl (.bool true) (fun _ => by kernel_rfl) ?_
        refine pl_val (want_no rfl) (some 29) rfl (.bool false) (fun _ => by kernel_rfl) ?_
        refine pl_val (want_no rfl) (some 30) rfl (.bool false) (fun _ => by kernel_rfl) ?_
        refine pl_val (want_on 2 false rfl 30 rfl (by kernel_rfl)) (some 31) rfl (.bool false) (fun _ => by kernel_rfl) ?_
        refine pl_val (want_on 2 false rfl 30 rfl (by kernel_rfl)) (some 32) rfl (.bool true) (fun _ => by kernel_rfl) ?_
        refine pl_val (want_no rfl) (some 33) rfl (.bool true) (fun _ => by kernel_rfl) ?_
        refine pl_val (want_no rfl) (some 34) rfl (.bool true) (fun _ => by kernel_rfl) ?_
        refine pl_skip (want_off 6 false rfl 34 rfl (by kernel_rfl)) (some 35) rfl ?_
        refine pl_skip (want_off 6 false rfl 34 rfl (by kernel_rfl)) (some 36) rfl ?_
        refine pl_skip (want_off 6 false rfl 34 rfl (by kernel_rfl)) (some 37) rfl ?_
        refine pl_skip (want_off 6 false rfl 34 rfl (by kernel_rfl)) (some 38) rfl ?_
        refine pl_skip (want_off 6 false rfl 34 rfl (by kernel_rfl)) (some 39) rfl ?_
        refine pl_skip (want_off 6 false rfl 34 rfl (by kernel_rfl)) (some 40) rfl ?_
        refine pl_val (want_no rfl) (some 41) rfl (.bool true) (fun _ => by kernel_rfl) ?_
        refine pl_nil ?_
        refine au_then ?_
        refine wp_cond_true (by kernel_rfl) ?_
        refine wp_seq ?_
        refine rg_lit ?_
        refine pl_val (want_no rfl) (some 42) rfl (.agg (av 3 (ls [.bool false, .int .u64 0, .int .u64 0]))) (fun _ => by kernel_rfl) ?_
        refine pl_put M (want_no rfl) rfl 24 _ _ rfl 0 g1 0 (by kernel_rfl) 3 24 (ls [.bool false, .int .u64 0, .int .u64 0]) rfl 3 (ls [.bool false, .int .u64 0, .int .u64 0]) (ls [.bool false, .int .u64 0, .int .u64 0]) (by kernel_rfl) inz24 (by decide) (one_ls _ rfl) (fun j hj => by rw [if_pos (by omega), Nat.sub_zero]) ?_
        intro u6 M
        replace M : Mem ⟨w, []⟩ [⟨g1, .cells (av 3 (ls [.bool false, .int .u64 0, .int .u64 0])) 24⟩, ⟨gl1, Z1⟩, ⟨g2, .cells (av 8 (w16 (fun _ => 0))) 94⟩] u6 := M
        refine pl_val (want_no rfl) (some 3) rfl (.bool false) (fun _ => by kernel_rfl) ?_
        refine pl_nil ?_
        refine au_then ?_
        refine wp_ret ?_
        refine au_then_ret ?_
        have e0 : (lk6 s).isSome = false := by rw [(show lk6 s = none by unfold lk6; rw [hN1, hN2])]; rfl
        have e1 : ((lk6 s).getD (0, 0)).1 = 0 := by rw [(show lk6 s = none by unfold lk6; rw [hN1, hN2])]; rfl
        have e2 : ((lk6 s).getD (0, 0)).2 = 0 := by rw [(show lk6 s = none by unfold lk6; rw [hN1, hN2])]; rfl
        exact bodyPost_ret (v := .tuple #[.agg (av 3 (ls [.bool false, .int .u64 0, .int .u64 0])), .bool false]) (results_cell_tmp Tryz.results69 _ _ g1 24 (av 3 (ls [.bool false, .int .u64 0, .int .u64 0])) (0, 0) _ _ (by kernel_rfl) (by kernel_rfl) (M.get 0 rfl) Tryz.underlying24 rfl (by rw [av_size]; exact inz24)) (by kernel_rfl) ⟨by rw [e0, e1, e2], below_grown M.old⟩
      · skip
        by_cases he2 : l2 = []
        · skip
          subst he2
          refine pl_call M (want_no rfl) (some 25) rfl 89 #[.string (cuB s ⟨#[58, 58]⟩), .string ⟨#[58]⟩, .int .i64 16, .int .i64 16] (.tuple #[.slice none 0 0, .bool true]) (fun _ => by kernel_rfl) (fun w M => c_nums16E (cuB s ⟨#[58, 58]⟩) ⟨#[58]⟩ (by have := cuB_le s ⟨#[58, 58]⟩; omega) (by decide) hN2 w M.laid) ?_
          intro u4 M
          refine pl_val (want_no rfl) (some 23) rfl (.tuple #[.slice none 0 0, .bool true]) (fun _ => by kernel_rfl) ?_
          refine pl_val (want_no rfl) (some 26) rfl (.slice none 0 0) (fun _ => by kernel_rfl) ?_
          refine pl_val (want_no rfl) (some 27) rfl (.bool true) (fun _ => by kernel_rfl) ?_
          refine pl_val (want_no rfl) (some 9) rfl (.slice none 0 0) (fun _ => by kernel_rfl) ?_
          refine pl_val (want_no rfl) (some 10) rfl (.bool true) (fun _ => by kernel_rfl) ?_
          refine pl_nil ?_
          refine au_then ?_
          refine wp_seq ?_
          refine rg_lit ?_
          refine pl_new M (want_no rfl) (some 11) rfl (.cells (av 8 (w16 (fun _ => 0))) 94) (fun _ => by kernel_rfl) ?_
          intro g2 u5 M
          replace M : Mem ⟨w, []⟩ [⟨g1, .cells (av 3 (ls [.bool false, .int .u64 0, .int .u64 0])) 24⟩, ⟨gl1, Z1⟩, ⟨g2, .cells (av 8 (w16 (fun _ => 0))) 94⟩] u5 := M
          refine pl_nil ?_
          refine au_then ?_
          refine wp_seq ?_
          refine wp_seq ?_
          refine rg_lit ?_
          refine pl_val (want_no rfl) (some 28) rfl (.bool true) (fun _ => by kernel_rfl) ?_
          refine pl_val (want_no rfl) (some 29) rfl (.bool false) (fun _ => by kernel_rfl) ?_
          refine pl_val (want_no rfl) (some 30) rfl (.bool false) (fun _ => by kernel_rfl) ?_
          refine pl_val (want_on 2 false rfl 30 rfl (by kernel_rfl)) (some 31) rfl (.bool true) (fun _ => by kernel_rfl) ?_
          refine pl_val (want_on 2 false rfl 30 rfl (by kernel_rfl)) (some 32) rfl (.bool false) (fun _ => by kernel_rfl) ?_
          refine pl_val (want_no rfl) (some 33) rfl (.bool false) (fun _ => by kernel_rfl) ?_
          refine pl_val (want_no rfl) (some 34) rfl (.bool false) (fun _ => by kernel_rfl) ?_
          refine pl_val (want_on 6 false rfl 34 rfl (by kernel_rfl)) (some 35) rfl (.slice (some ⟨gl1, 0, none⟩) l1.length cp1) (fun _ => by kernel_rfl) ?_
          refine pl_val (want_on 6 false rfl 34 rfl (by kernel_rfl)) (some 36) rfl (.int .i64 ((l1.length : Nat) : Int)) (fun _ => by kernel_rfl) ?_
          refine pl_val (want_on 6 false rfl 34 rfl (by kernel_rfl)) (some 37) rfl (.slice none 0 0) (fun _ => by kernel_rfl) ?_
          refine pl_val (want_on 6 false rfl 34 rfl (by kernel_rfl)) (some 38) rfl (.int .i64 0) (fun _ => by kernel_rfl) ?_
          have hq1 := hl1 l1 hN1
          refine pl_val (want_on 6 false rfl 34 rfl (by kernel_rfl)) (some 39) rfl (.int .i64 (((l1.length : Nat) : Int) + 0)) (fun w => Eq.trans (b := .ok (.value (.int .i64 (cv .i64 (((l1.length : Nat) : Int) + 0)))) w) (by kernel_rfl) (by rw [cv_i64 (by omega) (by omega)])) ?_
          by_cases c4 : 8 < (((l1.length : Nat) : Int) + 0)
          · skip
            refine pl_val (want_on 6 false rfl 34 rfl (by kernel_rfl)) (some 40) rfl (.bool true) (fun w => Eq.trans (b := .ok (.value (.bool (decide (8 < (((l1.length : Nat) : Int) + 0))))) w) (by kernel_rfl) (by rw [decide_eq_true (c4)])) ?_
            refine pl_val (want_no rfl) (some 41) rfl (.bool true) (fun _ => by kernel_rfl) ?_
            refine pl_nil ?_
            refine au_then ?_
            refine wp_cond_true (by kernel_rfl) ?_
            refine wp_seq ?_
            refine rg_lit ?_
            refine pl_val (want_no rfl) (some 42) rfl (.agg (av 3 (ls [.bool false, .int .u64 0, .int .u64 0]))) (fun _ => by kernel_rfl) ?_
            refine pl_put M (want_no rfl) rfl 24 _ _ rfl 0 g1 0 (by kernel_rfl) 3 24 (ls [.bool false, .int .u64 0, .int .u64 0]) rfl 3 (ls [.bool false, .int .u64 0, .int .u64 0]) (ls [.bool false, .int .u64 0, .int .u64 0]) (by kernel_rfl) inz24 (by decide) (one_ls _ rfl) (fun j hj => by rw [if_pos (by omega), Nat.sub_zero]) ?_
            intro u6 M
            replace M : Mem ⟨w, []⟩ [⟨g1, .cells (av 3 (ls [.bool false, .int .u64 0, .int .u64 0])) 24⟩, ⟨gl1, Z1⟩, ⟨g2, .cells (av 8 (w16 (fun _ => 0))) 94⟩] u6 := M
            refine pl_val (want_no rfl) (some 3) rfl (.bool false) (fun _ => by kernel_rfl) ?_
            refine pl_nil ?_
            refine au_then ?_
            refine wp_ret ?_
            refine au_then_ret ?_
            have e0 : (lk6 s).isSome = false := by rw [(show lk6 s = none by unfold lk6; rw [hN1, hN2]; exact if_pos (by simp only [List.length_nil]; omega))]; rfl
            have e1 : ((lk6 s).getD (0, 0)).1 = 0 := by rw [(show lk6 s = none by unfold lk6; rw [hN1, hN2]; exact if_pos (by simp only [List.length_nil]; omega))]; rfl
            have e2 : ((lk6 s).getD (0, 0)).2 = 0 := by rw [(show lk6 s = none by unfold lk6; rw [hN1, hN2]; exact if_pos (by simp only [List.length_nil]; omega))]; rfl
            exact bodyPost_ret (v := .tuple #[.agg (av 3 (ls [.bool false, .int .u64 0, .int .u64 0])), .bool false]) (results_cell_tmp Tryz.results69 _ _ g1 24 (av 3 (ls [.bool false, .int .u64 0, .int .u64 0])) (0, 0) _ _ (by kernel_rfl) (by kernel_rfl) (M.get 0 rfl) Tryz.underlying24 rfl (by rw [av_size]; exact inz24)) (by kernel_rfl) ⟨by rw [e0, e1, e2], below_grown M.old⟩
          · skip
            refine pl_val (want_on 6 false rfl 34 rfl (by kernel_rfl)) (some 40) rfl (.bool false) (fun w => Eq.trans (b := .ok (.value (.bool (decide (8 < (((l1.length : Nat) : Int) + 0))))) w) (by kernel_rfl) (by rw [decide_eq_false (c4)])) ?_
            refine pl_val (want_no rfl) (some 41) rfl (.bool false) (fun _ => by kernel_rfl) ?_
            refine pl_nil ?_
            refine au_then ?_
            refine wp_cond_false (by kernel_rfl) ?_
            refine wp_skip ?_
            refine au_then ?_
            refine wp_seq ?_
            refine rg_lit ?_
            refine pl_val (want_no rfl) (some 43) rfl (.slice (some ⟨g2, 0, none⟩) 8 8) (fun _ => by kernel_rfl) ?_
            refine pl_val (want_no rfl) (some 44) rfl (.slice (some ⟨gl1, 0, none⟩) l1.length cp1) (fun _ => by kernel_rfl) ?_
            refine pl_copyC M (want_no rfl) (some 45) rfl 99 99 3 32 Tryz.underlying99 inz32 2 g2 8 94 (w16 (fun _ => 0)) rfl gl1 (w16 (tgi l1)) 0 8 8 0 l1.length cp1 l1.length (by show _ = min _ _; omega) (by omega) (fun w M j hj => by rw [Nat.zero_add]; exact hZ1.cell (M.get 1 rfl) (v16_at _ _ hj)) (fun _ => rfl) (w16 (cpl (fun _ => 0) 0 l1)) (fun j _ => cpl_w16 _ _ _ j) (fun _ => by kernel_rfl) ?_
            intro u6 M
            replace M : Mem ⟨w, []⟩ [⟨g1, .cells (av 3 (ls [.bool false, .int .u64 0, .int .u64 0])) 24⟩, ⟨gl1, Z1⟩, ⟨g2, .cells (av 8 (w16 (cpl (fun _ => 0) 0 l1))) 94⟩] u6 := M
            refine pl_nil ?_
            refine au_then ?_
            refine wp_seq ?_
            refine rg_lit ?_
            refine pl_val (want_no rfl) (some 46) rfl (.slice none 0 0) (fun _ => by kernel_rfl) ?_
            refine pl_val (want_no rfl) (some 47) rfl (.int .i64 0) (fun _ => by kernel_rfl) ?_
            refine pl_val (want_no rfl) (some 48) rfl (.int .i64 8) (fun _ => by kernel_rfl) ?_
            refine pl_val (want_no rfl) (some 49) rfl (.slice (some ⟨g2, 0, none⟩) 0 0) (run_slAL 94 32 Tryz.underlying94 inz32 _ _ rfl g2 (by kernel_rfl) .i64 8 (by kernel_rfl) (by decide)) ?_
            refine pl_val (want_no rfl) (some 50) rfl (.slice none 0 0) (fun _ => by kernel_rfl) ?_
            refine pl_val (want_no rfl) (some 51) rfl (.int .i64 0) (fun _ => by kernel_rfl) ?_
            refine pl_nil ?_
            refine au_then ?_
            refine wp_seq ?_
            refine rg_lit ?_
            refine pl_load M (want_no rfl) (some 52) rfl 94 _ rfl 2 g2 0 (by kernel_rfl) 8 94 (w16 (cpl (fun _ => 0) 0 l1)) rfl 8 (w16 (cpl (fun _ => 0) 0 l1)) (fun j _ => by rw [Nat.zero_add]) (by decide) _ Tryz.underlying94 rfl inz94 ?_
            refine pl_call M (want_no rfl) (some 53) rfl 90 #[.agg (av 8 (w16 (cpl (fun _ => 0) 0 l1)))] (.agg (av 3 (ls [.bool true, .int .u64 (adH (cpl (fun _ => 0) 0 l1)), .int .u64 (adL (cpl (fun _ => 0) 0 l1))]))) (fun _ => by kernel_rfl) (fun w M => c_addr (cpl (fun _ => 0) 0 l1) w M.laid) ?_
            intro u7 M
            refine pl_put M (want_no rfl) rfl 24 _ _ rfl 0 g1 0 (by kernel_rfl) 3 24 (ls [.bool false, .int .u64 0, .int .u64 0]) rfl 3 (ls [.bool true, .int .u64 (adH (cpl (fun _ => 0) 0 l1)), .int .u64 (adL (cpl (fun _ => 0) 0 l1))]) (ls [.bool true, .int .u64 (adH (cpl (fun _ => 0) 0 l1)), .int .u64 (adL (cpl (fun _ => 0) 0 l1))]) (by kernel_rfl) inz24 (by decide) (one_ls _ rfl) (fun j hj => by rw [if_pos (by omega), Nat.sub_zero]) ?_
            intro u8 M
            replace M : Mem ⟨w, []⟩ [⟨g1, .cells (av 3 (ls [.bool true, .int .u64 (adH (cpl (fun _ => 0) 0 l1)), .int .u64 (adL (cpl (fun _ => 0) 0 l1))])) 24⟩, ⟨gl1, Z1⟩, ⟨g2, .cells (av 8 (w16 (cpl (fun _ => 0) 0 l1))) 94⟩] u8 := M
            refine pl_val (want_no rfl) (some 3) rfl (.bool true) (fun _ => by kernel_rfl) ?_
            refine pl_nil ?_
            refine au_then ?_
            refine wp_ret ?_
            have e0 : (lk6 s).isSome = true := by rw [(show lk6 s = some (adH (g6 l1 []), adL (g6 l1 [])) by unfold lk6; rw [hN1, hN2]; exact if_neg (by simp only [List.length_nil]; omega))]; rfl
            have e1 : ((lk6 s).getD (0, 0)).1 = (adH (cpl (fun _ => 0) 0 l1)) := by rw [(show lk6 s = some (adH (g6 l1 []), adL (g6 l1 [])) by unfold lk6; rw [hN1, hN2]; exact if_neg (by simp only [List.length_nil]; omega))]; show adH (g6 l1 []) = _; unfold g6; rw [cpl_nil]
            have e2 : ((lk6 s).getD (0, 0)).2 = (adL (cpl (fun _ => 0) 0 l1)) := by rw [(show lk6 s = some (adH (g6 l1 []), adL (g6 l1 [])) by unfold lk6; rw [hN1, hN2]; exact if_neg (by simp only [List.length_nil]; omega))]; show adL (g6 l1 []) = _; unfold g6; rw [cpl_nil]
            exact bodyPost_ret (v := .tuple #[.agg (av 3 (ls [.bool true, .int .u64 (adH (cpl (fun _ => 0) 0 l1)), .int .u64 (adL (cpl (fun _ => 0) 0 l1))])), .bool true]) (results_cell_tmp Tryz.results69 _ _ g1 24 (av 3 (ls [.bool true, .int .u64 (adH (cpl (fun _ => 0) 0 l1)), .int .u64 (adL (cpl (fun _ => 0) 0 l1))])) (0, 0) _ _ (by kernel_rfl) (by kernel_rfl) (M.get 0 rfl) Tryz.underlying24 rfl (by rw [av_size]; exact inz24)) (by kernel_rfl) ⟨by rw [e0, e1, e2], below_grown M.old⟩
        · skip
          refine pl_callL M (want_no rfl) (some 25) rfl 89 #[.string (cuB s ⟨#[58, 58]⟩), .string ⟨#[58]⟩, .int .i64 16, .int .i64 16] (fun g cap => .tuple #[.slice (some ⟨g, 0, none⟩) l2.length cap, .bool true]) (fun cap Z => SB Z cap (v16 l2)) (fun _ => by kernel_rfl) (fun w M => c_nums16L (cuB s ⟨#[58, 58]⟩) ⟨#[58]⟩ (by have := cuB_le s ⟨#[58, 58]⟩; omega) (by decide) l2 he2 hN2 w M.laid) ?_
          intro gl2 cp2 Z2 u4 hZ2 M
          replace M : Mem ⟨w, []⟩ [⟨g1, .cells (av 3 (ls [.bool false, .int .u64 0, .int .u64 0])) 24⟩, ⟨gl1, Z1⟩, ⟨gl2, Z2⟩] u4 := M
          refine pl_val (want_no rfl) (some 23) rfl (.tuple #[.slice (some ⟨gl2, 0, none⟩) l2.length cp2, .bool true]) (fun _ => by kernel_rfl) ?_
          refine pl_val (want_no rfl) (some 26) rfl (.slice (some ⟨gl2, 0, none⟩) l2.length cp2) (fun _ => by kernel_rfl) ?_
          refine pl_val (want_no rfl) (some 27) rfl (.bool true) (fun _ => by kernel_rfl) ?_
          refine pl_val (want_no rfl) (some 9) rfl (.slice (some ⟨gl2, 0, none⟩) l2.length cp2) (fun _ => by kernel_rfl) ?_
          refine pl_val (want_no rfl) (some 10) rfl (.bool true) (fun _ => by kernel_rfl) ?_
          refine pl_nil ?_
          refine au_then ?_
          refine wp_seq ?_
          refine rg_lit ?_
          refine pl_new M (want_no rfl) (some 11) rfl (.cells (av 8 (w16 (fun _ => 0))) 94) (fun _ => by kernel_rfl) ?_
          intro g2 u5 M
          replace M : Mem ⟨w, []⟩ [⟨g1, .cells (av 3 (ls [.bool false, .int .u64 0, .int .u64 0])) 24⟩, ⟨gl1, Z1⟩, ⟨gl2, Z2⟩, ⟨g2, .cells (av 8 (w16 (fun _ => 0))) 94⟩] u5 := M
          refine pl_nil ?_
          refine au_then ?_
          refine wp_seq ?_
          refine wp_seq ?_
          refine rg_lit ?_
          refine pl_val (want_no rfl) (some 28) rfl (.bool true) (fun _ => by kernel_rfl) ?_
          refine pl_val (want_no rfl) (some 29) rfl (.bool false) (fun _ => by kernel_rfl) ?_
          refine pl_val (want_no rfl) (some 30) rfl (.bool false) (fun _ => by kernel_rfl) ?_
          refine pl_val (want_on 2 false rfl 30 rfl (by kernel_rfl)) (some 31) rfl (.bool true) (fun _ => by kernel_rfl) ?_
          refine pl_val (want_on 2 false rfl 30 rfl (by kernel_rfl)) (some 32) rfl (.bool false) (fun _ => by kernel_rfl) ?_
          refine pl_val (want_no rfl) (some 33) rfl (.bool false) (fun _ => by kernel_rfl) ?_
          refine pl_val (want_no rfl) (some 34) rfl (.bool false) (fun _ => by kernel_rfl) ?_
          refine pl_val (want_on 6 false rfl 34 rfl (by kernel_rfl)) (some 35) rfl (.slice (some ⟨gl1, 0, none⟩) l1.length cp1) (fun _ => by kernel_rfl) ?_
          refine pl_val (want_on 6 false rfl 34 rfl (by kernel_rfl)) (some 36) rfl (.int .i64 ((l1.length : Nat) : Int)) (fun _ => by kernel_rfl) ?_
          refine pl_val (want_on 6 false rfl 34 rfl (by kernel_rfl)) (some 37) rfl (.slice (some ⟨gl2, 0, none⟩) l2.length cp2) (fun _ => by kernel_rfl) ?_
          refine pl_val (want_on 6 false rfl 34 rfl (by kernel_rfl)) (some 38) rfl (.int .i64 ((l2.length : Nat) : Int)) (fun _ => by kernel_rfl) ?_
          have hq1 := hl1 l1 hN1
          have hq2 := hl2 l2 hN2
          refine pl_val (want_on 6 false rfl 34 rfl (by kernel_rfl)) (some 39) rfl (.int .i64 (((l1.length : Nat) : Int) + ((l2.length : Nat) : Int))) (fun w => Eq.trans (b := .ok (.value (.int .i64 (cv .i64 (((l1.length : Nat) : Int) + ((l2.length : Nat) : Int))))) w) (by kernel_rfl) (by rw [cv_i64 (by omega) (by omega)])) ?_
          by_cases c4 : 8 < (((l1.length : Nat) : Int) + ((l2.length : Nat) : Int))
          · skip
            refine pl_val (want_on 6 false rfl 34 rfl (by kernel_rfl)) (some 40) rfl (.bool true) (fun w => Eq.trans (b := .ok (.value (.bool (decide (8 < (((l1.length : Nat) : Int) + ((l2.length : Nat) : Int)))))) w) (by kernel_rfl) (by rw [decide_eq_true (c4)])) ?_
            refine pl_val (want_no rfl) (some 41) rfl (.bool true) (fun _ => by kernel_rfl) ?_
            refine pl_nil ?_
            refine au_then ?_
            refine wp_cond_true (by kernel_rfl) ?_
            refine wp_seq ?_
            refine rg_lit ?_
            refine pl_val (want_no rfl) (some 42) rfl (.agg (av 3 (ls [.bool false, .int .u64 0, .int .u64 0]))) (fun _ => by kernel_rfl) ?_
            refine pl_put M (want_no rfl) rfl 24 _ _ rfl 0 g1 0 (by kernel_rfl) 3 24 (ls [.bool false, .int .u64 0, .int .u64 0]) rfl 3 (ls [.bool false, .int .u64 0, .int .u64 0]) (ls [.bool false, .int .u64 0, .int .u64 0]) (by kernel_rfl) inz24 (by decide) (one_ls _ rfl) (fun j hj => by rw [if_pos (by omega), Nat.sub_zero]) ?_
            intro u6 M
            replace M : Mem ⟨w, []⟩ [⟨g1, .cells (av 3 (ls [.bool false, .int .u64 0, .int .u64 0])) 24⟩, ⟨gl1, Z1⟩, ⟨gl2, Z2⟩, ⟨g2, .cells (av 8 (w16 (fun _ => 0))) 94⟩] u6 := M
            refine pl_val (want_no rfl) (some 3) rfl (.bool false) (fun _ => by kernel_rfl) ?_
            refine pl_nil ?_
            refine au_then ?_
            refine wp_ret ?_
            refine au_then_ret ?_
            have e0 : (lk6 s).isSome = false := by rw [(show lk6 s = none by unfold lk6; rw [hN1, hN2]; exact if_pos (by omega))]; rfl
            have e1 : ((lk6 s).getD (0, 0)).1 = 0 := by rw [(show lk6 s = none by unfold lk6; rw [hN1, hN2]; exact if_pos (by omega))]; rfl
            have e2 : ((lk6 s).getD (0, 0)).2 = 0 := by rw [(show lk6 s = none by unfold lk6; rw [hN1, hN2]; exact if_pos (by omega))]; rfl
            exact bodyPost_ret (v := .tuple #[.agg (av 3 (ls [.bool false, .int .u64 0, .int .u64 0])), .bool false]) (results_cell_tmp Tryz.results69 _ _ g1 24 (av 3 (ls [.bool false, .int .u64 0, .int .u64 0])) (0, 0) _ _ (by kernel_rfl) (by kernel_rfl) (M.get 0 rfl) Tryz.underlying24 rfl (by rw [av_size]; exact inz24)) (by kernel_rfl) ⟨by rw [e0, e1, e2], below_grown M.old⟩
          · skip
            refine pl_val (want_on 6 false rfl 34 rfl (by kernel_rfl)) (some 40) rfl (.bool false) (fun w => Eq.trans (b := .ok (.value (.bool (decide (8 < (((l1.length : Nat) : Int) + ((l2.length : Nat) : Int)))))) w) (by kernel_rfl) (by rw [decide_eq_false (c4)])) ?_
            refine pl_val (want_no rfl) (some 41) rfl (.bool false) (fun _ => by kernel_rfl) ?_
            refine pl_nil ?_
            refine au_then ?_
            refine wp_cond_false (by kernel_rfl) ?_
            refine wp_skip ?_
            refine au_then ?_
            refine wp_seq ?_
            refine rg_lit ?_
            refine pl_val (want_no rfl) (some 43) rfl (.slice (some ⟨g2, 0, none⟩) 8 8) (fun _ => by kernel_rfl) ?_
            refine pl_val (want_no rfl) (some 44) rfl (.slice (some ⟨gl1, 0, none⟩) l1.length cp1) (fun _ => by kernel_rfl) ?_
            refine pl_copyC M (want_no rfl) (some 45) rfl 99 99 3 32 Tryz.underlying99 inz32 3 g2 8 94 (w16 (fun _ => 0)) rfl gl1 (w16 (tgi l1)) 0 8 8 0 l1.length cp1 l1.length (by show _ = min _ _; omega) (by omega) (fun w M j hj => by rw [Nat.zero_add]; exact hZ1.cell (M.get 1 rfl) (v16_at _ _ hj)) (fun _ => rfl) (w16 (cpl (fun _ => 0) 0 l1)) (fun j _ => cpl_w16 _ _ _ j) (fun _ => by kernel_rfl) ?_
            intro u6 M
            replace M : Mem ⟨w, []⟩ [⟨g1, .cells (av 3 (ls [.bool false, .int .u64 0, .int .u64 0])) 24⟩, ⟨gl1, Z1⟩, ⟨gl2, Z2⟩, ⟨g2, .cells (av 8 (w16 (cpl (fun _ => 0) 0 l1))) 94⟩] u6 := M
            refine pl_nil ?_
            refine au_then ?_
            refine wp_seq ?_
            refine rg_lit ?_
            refine pl_val (want_no rfl) (some 46) rfl (.slice (some ⟨gl2, 0, none⟩) l2.length cp2) (fun _ => by kernel_rfl) ?_
            refine pl_val (want_no rfl) (some 47) rfl (.int .i64 ((l2.length : Nat) : Int)) (fun _ => by kernel_rfl) ?_
            refine pl_val (want_no rfl) (some 48) rfl (.int .i64 ((8 - l2.length : Nat) : Int)) (fun w => Eq.trans (b := .ok (.value (.int .i64 (cv .i64 (8 - ((l2.length : Nat) : Int))))) w) (by kernel_rfl) (by rw [cv_i64 (by omega) (by omega)]; congr 3; omega)) ?_
            refine pl_val (want_no rfl) (some 49) rfl (.slice (some ⟨g2, (8 - l2.length), none⟩) (8 - (8 - l2.length)) (8 - (8 - l2.length))) (fun w => (run_slAL 94 32 Tryz.underlying94 inz32 _ _ rfl g2 (by kernel_rfl) .i64 (8 - l2.length) (by kernel_rfl) (by omega) w).trans (by rw [show so (8 - l2.length) = 8 - l2.length from if_neg (by have := List.length_pos_iff.2 he2; omega)])) ?_
            refine pl_val (want_no rfl) (some 50) rfl (.slice (some ⟨gl2, 0, none⟩) l2.length cp2) (fun _ => by kernel_rfl) ?_
            refine pl_copyC M (want_no rfl) (some 51) rfl 99 99 3 32 Tryz.underlying99 inz32 3 g2 8 94 (w16 (cpl (fun _ => 0) 0 l1)) rfl gl2 (w16 (tgi l2)) (8 - l2.length) (8 - (8 - l2.length)) (8 - (8 - l2.length)) 0 l2.length cp2 l2.length (by show _ = min _ _; omega) (by omega) (fun w M j hj => by rw [Nat.zero_add]; exact hZ2.cell (M.get 2 rfl) (v16_at _ _ hj)) (fun _ => rfl) (w16 (cpl (cpl (fun _ => 0) 0 l1) (8 - l2.length) l2)) (fun j _ => cpl_w16 _ _ _ j) (fun _ => by kernel_rfl) ?_
            intro u7 M
            replace M : Mem ⟨w, []⟩ [⟨g1, .cells (av 3 (ls [.bool false, .int .u64 0, .int .u64 0])) 24⟩, ⟨gl1, Z1⟩, ⟨gl2, Z2⟩, ⟨g2, .cells (av 8 (w16 (cpl (cpl (fun _ => 0) 0 l1) (8 - l2.length) l2))) 94⟩] u7 := M
            refine pl_nil ?_
            refine au_then ?_
            refine wp_seq ?_
            refine rg_lit ?_
            refine pl_load M (want_no rfl) (some 52) rfl 94 _ rfl 3 g2 0 (by kernel_rfl) 8 94 (w16 (cpl (cpl (fun _ => 0) 0 l1) (8 - l2.length) l2)) rfl 8 (w16 (cpl (cpl (fun _ => 0) 0 l1) (8 - l2.length) l2)) (fun j _ => by rw [Nat.zero_add]) (by decide) _ Tryz.underlying94 rfl inz94 ?_
            refine pl_call M (want_no rfl) (some 53) rfl 90 #[.agg (av 8 (w16 (cpl (cpl (fun _ => 0) 0 l1) (8 - l2.length) l2)))] (.agg (av 3 (ls [.bool true, .int .u64 (adH (cpl (cpl (fun _ => 0) 0 l1) (8 - l2.length) l2)), .int .u64 (adL (cpl (cpl (fun _ => 0) 0 l1) (8 - l2.length) l2))]))) (fun _ => by kernel_rfl) (fun w M => c_addr (cpl (cpl (fun _ => 0) 0 l1) (8 - l2.length) l2) w M.laid) ?_
            intro u8 M
            refine pl_put M (want_no rfl) rfl 24 _ _ rfl 0 g1 0 (by kernel_rfl) 3 24 (ls [.bool false, .int .u64 0, .int .u64 0]) rfl 3 (ls [.bool true, .int .u64 (adH (cpl (cpl (fun _ => 0) 0 l1) (8 - l2.length) l2)), .int .u64 (adL (cpl (cpl (fun _ => 0) 0 l1) (8 - l2.length) l2))]) (ls [.bool true, .int .u64 (adH (cpl (cpl (fun _ => 0) 0 l1) (8 - l2.length) l2)), .int .u64 (adL (cpl (cpl (fun _ => 0) 0 l1) (8 - l2.length) l2))]) (by kernel_rfl) inz24 (by decide) (one_ls _ rfl) (fun j hj => by rw [if_pos (by omega), Nat.sub_zero]) ?_
            intro u9 M
            replace M : Mem ⟨w, []⟩ [⟨g1, .cells (av 3 (ls [.bool true, .int .u64 (adH (cpl (cpl (fun _ => 0) 0 l1) (8 - l2.length) l2)), .int .u64 (adL (cpl (cpl (fun _ => 0) 0 l1) (8 - l2.length) l2))])) 24⟩, ⟨gl1, Z1⟩, ⟨gl2, Z2⟩, ⟨g2, .cells (av 8 (w16 (cpl (cpl (fun _ => 0) 0 l1) (8 - l2.length) l2))) 94⟩] u9 := M
            refine pl_val (want_no rfl) (some 3) rfl (.bool true) (fun _ => by kernel_rfl) ?_
            refine pl_nil ?_
            refine au_then ?_
            refine wp_ret ?_
            have e0 : (lk6 s).isSome = true := by rw [(show lk6 s = some (adH (g6 l1 l2), adL (g6 l1 l2)) by unfold lk6; rw [hN1, hN2]; exact if_neg (by omega))]; rfl
            have e1 : ((lk6 s).getD (0, 0)).1 = (adH (cpl (cpl (fun _ => 0) 0 l1) (8 - l2.length) l2)) := by rw [(show lk6 s = some (adH (g6 l1 l2), adL (g6 l1 l2)) by unfold lk6; rw [hN1, hN2]; exact if_neg (by omega))]; show adH (g6 l1 l2) = _; unfold g6; rfl
            have e2 : ((lk6 s).getD (0, 0)).2 = (adL (cpl (cpl (fun _ => 0) 0 l1) (8 - l2.length) l2)) := by rw [(show lk6 s = some (adH (g6 l1 l2), adL (g6 l1 l2)) by unfold lk6; rw [hN1, hN2]; exact if_neg (by omega))]; show adL (g6 l1 l2) = _; unfold g6; rfl
            exact bodyPost_ret (v := .tuple #[.agg (av 3 (ls [.bool true, .int .u64 (adH (cpl (cpl (fun _ => 0) 0 l1) (8 - l2.length) l2)), .int .u64 (adL (cpl (cpl (fun _ => 0) 0 l1) (8 - l2.length) l2))])), .bool true]) (results_cell_tmp Tryz.results69 _ _ g1 24 (av 3 (ls [.bool true, .int .u64 (adH (cpl (cpl (fun _ => 0) 0 l1) (8 - l2.length) l2)), .int .u64 (adL (cpl (cpl (fun _ => 0) 0 l1) (8 - l2.length) l2))])) (0, 0) _ _ (by kernel_rfl) (by kernel_rfl) (M.get 0 rfl) Tryz.underlying24 rfl (by rw [av_size]; exact inz24)) (by kernel_rfl) ⟨by rw [e0, e1, e2], below_grown M.old⟩


end Go.Proofs.YtndonmdgplojnaaGreatDoor

/- Texts that are read: likely, Read, ReadPrefix. -/
namespace Go.Proofs.YtndonmdgplojnaaGreatDoor
open Go.RowKit

def lV (s : ByteArray) : Bool := if (39 : Int) < (s.size : Int) then false else if ctn s ⟨#[58]⟩ = true then (lk6 s).isSome else false
def lH (s : ByteArray) : Int := if (39 : Int) < (s.size : Int) then 0 else if ctn s ⟨#[58]⟩ = true then ((lk6 s).getD (0, 0)).1 else 0
def lL (s : ByteArray) : Int := if (39 : Int) < (s.size : Int) then 0 else if ctn s ⟨#[58]⟩ = true then ((lk6 s).getD (0, 0)).2 else (lk4 s).getD 0
def lI (s : ByteArray) : Bool := if (39 : Int) < (s.size : Int) then false else if ctn s ⟨#[58]⟩ = true then (lk6 s).isSome else (lk4 s).isSome
def rdE (s : ByteArray) : Int := if lI s = true then (if txt (lV s) (lH s) (lL s) = s then 0 else 8) else 8
set_option maxRecDepth 100000 in
set_option maxHeartbeats 4000000 in
set_option linter.unusedSimpArgs false in
theorem c_likely (s : ByteArray) (w : World) (hL : Laid w)  :
    Calls Tryz.prog 44 #[.string s] w fun r w' => r = .returned (.tuple #[.agg (av 3 (ls [.bool (lV s), .int .u64 (lH s), .int .u64 (lL s)])), .bool ((lI s))]) ∧ Below w.heap.size w w' := by
  go_enter Tryz.func44, Tryz.ntmps44
  have M := Mem.start hL
  refine wp_seq ?_
  refine rg_lit ?_
  refine pl_new M (want_no rfl) (some 2) rfl (.cells (av 3 (ls [.bool false, .int .u64 0, .int .u64 0])) 24) (fun _ => by kernel_rfl) ?_
  intro g1 u1 M
  replace M : Mem ⟨w, []⟩ [⟨g1, .cells (av 3 (ls [.bool false, .int .u64 0, .int .u64 0])) 24⟩] u1 := M
  refine pl_val (want_no rfl) (some 3) rfl (.bool false) (fun _ => by kernel_rfl) ?_
  refine pl_nil ?_
  refine au_then ?_
  refine wp_seq ?_
  refine wp_block ?_
  refine wp_seq ?_
  refine rg_lit ?_
  refine pl_val (want_no rfl) (some 5) rfl (.string s) (fun _ => by kernel_rfl) ?_
  refine pl_val (want_no rfl) (some 6) rfl (.int .i64 (s.size : Int)) (fun _ => by kernel_rfl) ?_
  by_cases c0 : 39 < (s.size : Int)
  · skip
    refine pl_val (want_no rfl) (some 7) rfl (.bool true) (fun w => Eq.trans (b := .ok (.value (.bool (decide (39 < (s.size : Int))))) w) (by kernel_rfl) (by rw [decide_eq_true (c0)])) ?_
    refine pl_val (want_no rfl) (some 4) rfl (.bool true) (fun _ => by kernel_rfl) ?_
    refine pl_nil ?_
    refine au_then ?_
    refine wp_cond_true (by kernel_rfl) ?_
    refine wp_seq ?_
    refine rg_lit ?_
    refine pl_val (want_no rfl) (some 8) rfl (.agg (av 3 (ls [.bool false, .int .u64 0, .int .u64 0]))) (fun _ => by kernel_rfl) ?_
    refine pl_put M (want_no rfl) rfl 24 _ _ rfl 0 g1 0 (by kernel_rfl) 3 24 (ls [.bool false, .int .u64 0, .int .u64 0]) rfl 3 (ls [.bool false, .int .u64 0, .int .u64 0]) (ls [.bool false, .int .u64 0, .int .u64 0]) (by kernel_rfl) inz24 (by decide) (one_ls _ rfl) (fun j hj => by rw [if_pos (by omega), Nat.sub_zero]) ?_
    intro u2 M
    replace M : Mem ⟨w, []⟩ [⟨g1, .cells (av 3 (ls [.bool false, .int .u64 0, .int .u64 0])) 24⟩] u2 := M
    refine pl_val (want_no rfl) (some 3) rfl (.bool false) (fun _ => by kernel_rfl) ?_
    refine pl_nil ?_
    refine au_then ?_
    refine wp_ret ?_
    refine au_block_ret ?_
    refine au_then_ret ?_
    have e0 : lV s = false := by unfold lV; rw [if_pos c0]
    have e1 : (lH s) = 0 := by unfold lH; rw [if_pos c0]
    have e2 : (lL s) = 0 := by unfold lL; rw [if_pos c0]
    have e3 : (lI s) = false := by unfold lI; rw [if_pos c0]
    exact bodyPost_ret (v := .tuple #[.agg (av 3 (ls [.bool false, .int .u64 0, .int .u64 0])), .bool false]) (results_cell_tmp Tryz.results44 _ _ g1 24 (av 3 (ls [.bool false, .int .u64 0, .int .u64 0])) (0, 0) _ _ (by kernel_rfl) (by kernel_rfl) (M.get 0 rfl) Tryz.underlying24 rfl (by rw [av_size]; exact inz24)) (by kernel_rfl) ⟨by rw [e0, e1, e2, e3], below_grown M.old⟩
  · skip
    refine pl_val (want_no rfl) (some 7) rfl (.bool false) (fun w => Eq.trans (b := .ok (.value (.bool (decide (39 < (s.size : Int))))) w) (by kernel_rfl) (by rw [decide_eq_false (c0)])) ?_
    refine pl_val (want_no rfl) (some 4) rfl (.bool false) (fun _ => by kernel_rfl) ?_
    refine pl_nil ?_
    refine au_then ?_
    refine wp_cond_false (by kernel_rfl) ?_
    refine wp_seq ?_
    refine rg_lit ?_
    refine pl_val (want_no rfl) (some 10) rfl (.string s) (fun _ => by kernel_rfl) ?_
    rcases Bool.eq_false_or_eq_true (ctn s ⟨#[58]⟩) with c1 | c1
    · skip
      refine pl_call M (want_no rfl) (some 11) rfl 68 #[.string s, .string ⟨#[58]⟩] (.bool true) (fun _ => by kernel_rfl) (fun w M => call_val (c_Contains s ⟨#[58]⟩ (by omega) w M.laid) (congrArg Value.bool c1)) ?_
      intro u2 M
      refine pl_val (want_no rfl) (some 9) rfl (.bool true) (fun _ => by kernel_rfl) ?_
      refine pl_nil ?_
      refine au_then ?_
      refine wp_cond_true (by kernel_rfl) ?_
      refine wp_seq ?_
      refine rg_lit ?_
      refine pl_val (want_no rfl) (some 12) rfl (.string s) (fun _ => by kernel_rfl) ?_
      refine pl_call M (want_no rfl) (some 13) rfl 69 #[.string s] (.tuple #[.agg (av 3 (ls [.bool ((lk6 s).isSome), .int .u64 ((lk6 s).getD (0, 0)).1, .int .u64 ((lk6 s).getD (0, 0)).2])), .bool (lk6 s).isSome]) (fun _ => by kernel_rfl) (fun w M => c_likely6 s (by omega) w M.laid) ?_
      intro u3 M
      refine pl_val (want_no rfl) (some 14) rfl (.agg (av 3 (ls [.bool ((lk6 s).isSome), .int .u64 ((lk6 s).getD (0, 0)).1, .int .u64 ((lk6 s).getD (0, 0)).2]))) (fun _ => by kernel_rfl) ?_
      refine pl_val (want_no rfl) (some 15) rfl (.bool (lk6 s).isSome) (fun _ => by kernel_rfl) ?_
      refine pl_put M (want_no rfl) rfl 24 _ _ rfl 0 g1 0 (by kernel_rfl) 3 24 (ls [.bool false, .int .u64 0, .int .u64 0]) rfl 3 (ls [.bool ((lk6 s).isSome), .int .u64 ((lk6 s).getD (0, 0)).1, .int .u64 ((lk6 s).getD (0, 0)).2]) (ls [.bool ((lk6 s).isSome), .int .u64 ((lk6 s).getD (0, 0)).1, .int .u64 ((lk6 s).getD (0, 0)).2]) (by kernel_rfl) inz24 (by decide) (one_ls _ rfl) (fun j hj => by rw [if_pos (by omega), Nat.sub_zero]) ?_
      intro u4 M
      replace M : Mem ⟨w, []⟩ [⟨g1, .cells (av 3 (ls [.bool ((lk6 s).isSome), .int .u64 ((lk6 s).getD (0, 0)).1, .int .u64 ((lk6 s).getD (0, 0)).2])) 24⟩] u4 := M
      refine pl_val (want_no rfl) (some 3) rfl (.bool (lk6 s).isSome) (fun _ => by kernel_rfl) ?_
      refine pl_nil ?_
      refine au_then ?_
      refine wp_ret ?_
      refine au_block_ret ?_
      refine au_then_ret ?_
      have e0 : lV s = (lk6 s).isSome := by unfold lV; rw [if_neg c0, if_pos c1]
      have e1 : (lH s) = ((lk6 s).getD (0, 0)).1 := by unfold lH; rw [if_neg c0, if_pos c1]
      have e2 : (lL s) = ((lk6 s).getD (0, 0)).2 := by unfold lL; rw [if_neg c0, if_pos c1]
      have e3 : (lI s) = (lk6 s).isSome := by unfold lI; rw [if_neg c0, if_pos c1]
      exact bodyPost_ret (v := .tuple #[.agg (av 3 (ls [.bool ((lk6 s).isSome), .int .u64 ((lk6 s).getD (0, 0)).1, .int .u64 ((lk6 s).getD (0, 0)).2])), .bool (lk6 s).isSome]) (results_cell_tmp Tryz.results44 _ _ g1 24 (av 3 (ls [.bool ((lk6 s).isSome), .int .u64 ((lk6 s).getD (0, 0)).1, .int .u64 ((lk6 s).getD (0, 0)).2])) (0, 0) _ _ (by kernel_rfl) (by kernel_rfl) (M.get 0 rfl) Tryz.underlying24 rfl (by rw [av_size]; exact inz24)) (by kernel_rfl) ⟨by rw [e0, e1, e2, e3], below_grown M.old⟩
    · skip
      refine pl_call M (want_no rfl) (some 11) rfl 68 #[.string s, .string ⟨#[58]⟩] (.bool false) (fun _ => by kernel_rfl) (fun w M => call_val (c_Contains s ⟨#[58]⟩ (by omega) w M.laid) (congrArg Value.bool c1)) ?_
      intro u2 M
      refine pl_val (want_no rfl) (some 9) rfl (.bool false) (fun _ => by kernel_rfl) ?_
      refine pl_nil ?_
      refine au_then ?_
      refine wp_cond_false (by kernel_rfl) ?_
      refine wp_skip ?_
      refine au_block ?_
      refine au_then ?_
      refine wp_seq ?_
      refine rg_lit ?_
      refine pl_val (want_no rfl) (some 16) rfl (.string s) (fun _ => by kernel_rfl) ?_
      refine pl_call M (want_no rfl) (some 17) rfl 70 #[.string s] (.tuple #[.agg (av 3 (ls [.bool false, .int .u64 0, .int .u64 ((lk4 s).getD 0)])), .bool (lk4 s).isSome]) (fun _ => by kernel_rfl) (fun w M => c_likely4 s (by omega) w M.laid) ?_
      intro u3 M
      refine pl_val (want_no rfl) (some 18) rfl (.agg (av 3 (ls [.bool false, .int .u64 0, .int .u64 ((lk4 s).getD 0)]))) (fun _ => by kernel_rfl) ?_
      refine pl_val (want_no rfl) (some 19) rfl (.bool (lk4 s).isSome) (fun _ => by kernel_rfl) ?_
      refine pl_put M (want_no rfl) rfl 24 _ _ rfl 0 g1 0 (by kernel_rfl) 3 24 (ls [.bool false, .int .u64 0, .int .u64 0]) rfl 3 (ls [.bool false, .int .u64 0, .int .u64 ((lk4 s).getD 0)]) (ls [.bool false, .int .u64 0, .int .u64 ((lk4 s).getD 0)]) (by kernel_rfl) inz24 (by decide) (one_ls _ rfl) (fun j hj => by rw [if_pos (by omega), Nat.sub_zero]) ?_
      intro u4 M
      replace M : Mem ⟨w, []⟩ [⟨g1, .cells (av 3 (ls [.bool false, .int .u64 0, .int .u64 ((lk4 s).getD 0)])) 24⟩] u4 := M
      refine pl_val (want_no rfl) (some 3) rfl (.bool (lk4 s).isSome) (fun _ => by kernel_rfl) ?_
      refine pl_nil ?_
      refine au_then ?_
      refine wp_ret ?_
      have e0 : lV s = false := by unfold lV; rw [if_neg c0, if_neg (by rw [c1]; decide)]
      have e1 : (lH s) = 0 := by unfold lH; rw [if_neg c0, if_neg (by rw [c1]; decide)]
      have e2 : (lL s) = ((lk4 s).getD 0) := by unfold lL; rw [if_neg c0, if_neg (by rw [c1]; decide)]
      have e3 : (lI s) = (lk4 s).isSome := by unfold lI; rw [if_neg c0, if_neg (by rw [c1]; decide)]
      exact bodyPost_ret (v := .tuple #[.agg (av 3 (ls [.bool false, .int .u64 0, .int .u64 ((lk4 s).getD 0)])), .bool (lk4 s).isSome]) (results_cell_tmp Tryz.results44 _ _ g1 24 (av 3 (ls [.bool false, .int .u64 0, .int .u64 ((lk4 s).getD 0)])) (0, 0) _ _ (by kernel_rfl) (by kernel_rfl) (M.get 0 rfl) Tryz.underlying24 rfl (by rw [av_size]; exact inz24)) (by kernel_rfl) ⟨by rw [e0, e1, e2, e3], below_grown M.old⟩

set_option maxRecDepth 100000 in
set_option maxHeartbeats 4000000 in
set_option linter.unusedSimpArgs false in
theorem c_Read (s : ByteArray) (w : World) (hL : Laid w)  :
    Calls Tryz.prog 18 #[.string s] w fun r w' => r = .returned (.tuple #[.agg (av 3 (ls [.bool (zB (rdE s) (lV s)), .int .u64 (zI (rdE s) (lH s)), .int .u64 (zI (rdE s) (lL s))])), .int .i64 (rdE s)]) ∧ Below w.heap.size w w' := by
  go_enter Tryz.func18, Tryz.ntmps18
  have M := Mem.start hL
  refine wp_seq ?_
  refine rg_lit ?_
  refine pl_new M (want_no rfl) (some 2) rfl (.cells (av 3 (ls [.bool false, .int .u64 0, .int .u64 0])) 24) (fun _ => by kernel_rfl) ?_
  intro g1 u1 M
  replace M : Mem ⟨w, []⟩ [⟨g1, .cells (av 3 (ls [.bool false, .int .u64 0, .int .u64 0])) 24⟩] u1 := M
  refine pl_val (want_no rfl) (some 3) rfl (.int .i64 0) (fun _ => by kernel_rfl) ?_
  refine pl_nil ?_
  refine au_then ?_
  refine wp_seq ?_
  refine wp_seq ?_
  refine rg_lit ?_
  refine pl_val (want_no rfl) (some 7) rfl (.string s) (fun _ => by kernel_rfl) ?_
  rcases Bool.eq_false_or_eq_true (lI s) with c0 | c0
  · skip
    refine pl_call M (want_no rfl) (some 8) rfl 44 #[.string s] (.tuple #[.agg (av 3 (ls [.bool (lV s), .int .u64 (lH s), .int .u64 (lL s)])), .bool true]) (fun _ => by kernel_rfl) (fun w M => call_val (c_likely s w M.laid) (by rw [c0])) ?_
    intro u2 M
    refine pl_val (want_no rfl) (some 6) rfl (.tuple #[.agg (av 3 (ls [.bool (lV s), .int .u64 (lH s), .int .u64 (lL s)])), .bool true]) (fun _ => by kernel_rfl) ?_
    refine pl_val (want_no rfl) (some 9) rfl (.agg (av 3 (ls [.bool (lV s), .int .u64 (lH s), .int .u64 (lL s)]))) (fun _ => by kernel_rfl) ?_
    refine pl_val (want_no rfl) (some 10) rfl (.bool true) (fun _ => by kernel_rfl) ?_
    refine pl_new M (want_no rfl) (some 4) rfl (.cells (av 3 (ls [.bool false, .int .u64 0, .int .u64 0])) 24) (fun _ => by kernel_rfl) ?_
    intro g2 u3 M
    replace M : Mem ⟨w, []⟩ [⟨g1, .cells (av 3 (ls [.bool false, .int .u64 0, .int .u64 0])) 24⟩, ⟨g2, .cells (av 3 (ls [.bool false, .int .u64 0, .int .u64 0])) 24⟩] u3 := M
    refine pl_put M (want_no rfl) rfl 24 _ _ rfl 1 g2 0 (by kernel_rfl) 3 24 (ls [.bool false, .int .u64 0, .int .u64 0]) rfl 3 (ls [.bool (lV s), .int .u64 (lH s), .int .u64 (lL s)]) (ls [.bool (lV s), .int .u64 (lH s), .int .u64 (lL s)]) (by kernel_rfl) inz24 (by decide) (one_ls _ rfl) (fun j hj => by rw [if_pos (by omega), Nat.sub_zero]) ?_
    intro u4 M
    replace M : Mem ⟨w, []⟩ [⟨g1, .cells (av 3 (ls [.bool false, .int .u64 0, .int .u64 0])) 24⟩, ⟨g2, .cells (av 3 (ls [.bool (lV s), .int .u64 (lH s), .int .u64 (lL s)])) 24⟩] u4 := M
    refine pl_val (want_no rfl) (some 5) rfl (.bool true) (fun _ => by kernel_rfl) ?_
    refine pl_nil ?_
    refine au_then ?_
    refine wp_seq ?_
    refine rg_lit ?_
    refine pl_val (want_no rfl) (some 11) rfl (.bool true) (fun _ => by kernel_rfl) ?_
    refine pl_val (want_no rfl) (some 12) rfl (.bool true) (fun _ => by kernel_rfl) ?_
    refine pl_load M (want_on 1 true rfl 12 rfl (by kernel_rfl)) (some 13) rfl 24 _ rfl 1 g2 0 (by kernel_rfl) 3 24 (ls [.bool (lV s), .int .u64 (lH s), .int .u64 (lL s)]) rfl 3 (ls [.bool (lV s), .int .u64 (lH s), .int .u64 (lL s)]) (fun j _ => by rw [Nat.zero_add]) (by decide) _ Tryz.underlying24 rfl inz24 ?_
    refine pl_call M (want_on 1 true rfl 12 rfl (by kernel_rfl)) (some 14) rfl 22 #[.agg (av 3 (ls [.bool (lV s), .int .u64 (lH s), .int .u64 (lL s)]))] (.string (txt (lV s) (lH s) (lL s))) (fun _ => by kernel_rfl) (fun w M => c_Text (lV s) (lH s) (lL s) w M.laid) ?_
    intro u5 M
    refine pl_val (want_on 1 true rfl 12 rfl (by kernel_rfl)) (some 15) rfl (.string s) (fun _ => by kernel_rfl) ?_
    by_cases c1 : (txt (lV s) (lH s) (lL s)) = s
    · skip
      refine pl_val (want_on 1 true rfl 12 rfl (by kernel_rfl)) (some 16) rfl (.bool true) (fun w => Eq.trans (b := .ok (.value (.bool ((txt (lV s) (lH s) (lL s)).toList == s.toList))) w) (by kernel_rfl) (by rw [seq_pos c1])) ?_
      refine pl_val (want_no rfl) (some 17) rfl (.bool true) (fun _ => by kernel_rfl) ?_
      refine pl_nil ?_
      refine au_then ?_
      refine wp_cond_true (by kernel_rfl) ?_
      refine wp_seq ?_
      refine rg_lit ?_
      refine pl_load M (want_no rfl) (some 18) rfl 24 _ rfl 1 g2 0 (by kernel_rfl) 3 24 (ls [.bool (lV s), .int .u64 (lH s), .int .u64 (lL s)]) rfl 3 (ls [.bool (lV s), .int .u64 (lH s), .int .u64 (lL s)]) (fun j _ => by rw [Nat.zero_add]) (by decide) _ Tryz.underlying24 rfl inz24 ?_
      refine pl_put M (want_no rfl) rfl 24 _ _ rfl 0 g1 0 (by kernel_rfl) 3 24 (ls [.bool false, .int .u64 0, .int .u64 0]) rfl 3 (ls [.bool (lV s), .int .u64 (lH s), .int .u64 (lL s)]) (ls [.bool (lV s), .int .u64 (lH s), .int .u64 (lL s)]) (by kernel_rfl) inz24 (by decide) (one_ls _ rfl) (fun j hj => by rw [if_pos (by omega), Nat.sub_zero]) ?_
      intro u6 M
      replace M : Mem ⟨w, []⟩ [⟨g1, .cells (av 3 (ls [.bool (lV s), .int .u64 (lH s), .int .u64 (lL s)])) 24⟩, ⟨g2, .cells (av 3 (ls [.bool (lV s), .int .u64 (lH s), .int .u64 (lL s)])) 24⟩] u6 := M
      refine pl_val (want_no rfl) (some 3) rfl (.int .i64 0) (fun _ => by kernel_rfl) ?_
      refine pl_nil ?_
      refine au_then ?_
      refine wp_ret ?_
      refine au_then_ret ?_
      have e0 : zB (rdE s) (lV s) = lV s := by rw [(show rdE s = 0 by unfold rdE; rw [if_pos c0, if_pos c1])]; rfl
      have e1 : (zI (rdE s) (lH s)) = (lH s) := by rw [(show rdE s = 0 by unfold rdE; rw [if_pos c0, if_pos c1])]; rfl
      have e2 : (zI (rdE s) (lL s)) = (lL s) := by rw [(show rdE s = 0 by unfold rdE; rw [if_pos c0, if_pos c1])]; rfl
      have e3 : (rdE s) = 0 := (show rdE s = 0 by unfold rdE; rw [if_pos c0, if_pos c1])
      exact bodyPost_ret (v := .tuple #[.agg (av 3 (ls [.bool (lV s), .int .u64 (lH s), .int .u64 (lL s)])), .int .i64 0]) (results_cell_tmp Tryz.results18 _ _ g1 24 (av 3 (ls [.bool (lV s), .int .u64 (lH s), .int .u64 (lL s)])) (0, 0) _ _ (by kernel_rfl) (by kernel_rfl) (M.get 0 rfl) Tryz.underlying24 rfl (by rw [av_size]; exact inz24)) (by kernel_rfl) ⟨by rw [e0, e1, e2, e3], below_grown M.old⟩
    · skip
      refine pl_val (want_on 1 true rfl 12 rfl (by kernel_rfl)) (some 16) rfl (.bool false) (fun w => Eq.trans (b := .ok (.value (.bool ((txt (lV s) (lH s) (lL s)).toList == s.toList))) w) (by kernel_rfl) (by rw [seq_neg c1])) ?_
      refine pl_val (want_no rfl) (some 17) rfl (.bool false) (fun _ => by kernel_rfl) ?_
      refine pl_nil ?_
      refine au_then ?_
      refine wp_cond_false (by kernel_rfl) ?_
      refine wp_skip ?_
      refine au_then ?_
      refine wp_seq ?_
      refine rg_lit ?_
      refine pl_val (want_no rfl) (some 19) rfl (.agg (av 3 (ls [.bool false, .int .u64 0, .int .u64 0]))) (fun _ => by kernel_rfl) ?_
      refine pl_put M (want_no rfl) rfl 24 _ _ rfl 0 g1 0 (by kernel_rfl) 3 24 (ls [.bool false, .int .u64 0, .int .u64 0]) rfl 3 (ls [.bool false, .int .u64 0, .int .u64 0]) (ls [.bool false, .int .u64 0, .int .u64 0]) (by kernel_rfl) inz24 (by decide) (one_ls _ rfl) (fun j hj => by rw [if_pos (by omega), Nat.sub_zero]) ?_
      intro u6 M
      replace M : Mem ⟨w, []⟩ [⟨g1, .cells (av 3 (ls [.bool false, .int .u64 0, .int .u64 0])) 24⟩, ⟨g2, .cells (av 3 (ls [.bool (lV s), .int .u64 (lH s), .int .u64 (lL s)])) 24⟩] u6 := M
      refine pl_val (want_no rfl) (some 3) rfl (.int .i64 8) (fun _ => by kernel_rfl) ?_
      refine pl_nil ?_
      refine au_then ?_
      refine wp_ret ?_
      have e0 : zB (rdE s) (lV s) = false := by rw [(show rdE s = 8 by unfold rdE; rw [if_pos c0, if_neg c1])]; rfl
      have e1 : (zI (rdE s) (lH s)) = 0 := by rw [(show rdE s = 8 by unfold rdE; rw [if_pos c0, if_neg c1])]; rfl
      have e2 : (zI (rdE s) (lL s)) = 0 := by rw [(show rdE s = 8 by unfold rdE; rw [if_pos c0, if_neg c1])]; rfl
      have e3 : (rdE s) = 8 := (show rdE s = 8 by unfold rdE; rw [if_pos c0, if_neg c1])
      exact bodyPost_ret (v := .tuple #[.agg (av 3 (ls [.bool false, .int .u64 0, .int .u64 0])), .int .i64 8]) (results_cell_tmp Tryz.results18 _ _ g1 24 (av 3 (ls [.bool false, .int .u64 0, .int .u64 0])) (0, 0) _ _ (by kernel_rfl) (by kernel_rfl) (M.get 0 rfl) Tryz.underlying24 rfl (by rw [av_size]; exact inz24)) (by kernel_rfl) ⟨by rw [e0, e1, e2, e3], below_grown M.old⟩
  · skip
    refine pl_call M (want_no rfl) (some 8) rfl 44 #[.string s] (.tuple #[.agg (av 3 (ls [.bool (lV s), .int .u64 (lH s), .int .u64 (lL s)])), .bool false]) (fun _ => by kernel_rfl) (fun w M => call_val (c_likely s w M.laid) (by rw [c0])) ?_
    intro u2 M
    refine pl_val (want_no rfl) (some 6) rfl (.tuple #[.agg (av 3 (ls [.bool (lV s), .int .u64 (lH s), .int .u64 (lL s)])), .bool false]) (fun _ => by kernel_rfl) ?_
    refine pl_val (want_no rfl) (some 9) rfl (.agg (av 3 (ls [.bool (lV s), .int .u64 (lH s), .int .u64 (lL s)]))) (fun _ => by kernel_rfl) ?_
    refine pl_val (want_no rfl) (some 10) rfl (.bool false) (fun _ => by kernel_rfl) ?_
    refine pl_new M (want_no rfl) (some 4) rfl (.cells (av 3 (ls [.bool false, .int .u64 0, .int .u64 0])) 24) (fun _ => by kernel_rfl) ?_
    intro g2 u3 M
    replace M : Mem ⟨w, []⟩ [⟨g1, .cells (av 3 (ls [.bool false, .int .u64 0, .int .u64 0])) 24⟩, ⟨g2, .cells (av 3 (ls [.bool false, .int .u64 0, .int .u64 0])) 24⟩] u3 := M
    refine pl_put M (want_no rfl) rfl 24 _ _ rfl 1 g2 0 (by kernel_rfl) 3 24 (ls [.bool false, .int .u64 0, .int .u64 0]) rfl 3 (ls [.bool (lV s), .int .u64 (lH s), .int .u64 (lL s)]) (ls [.bool (lV s), .int .u64 (lH s), .int .u64 (lL s)]) (by kernel_rfl) inz24 (by decide) (one_ls _ rfl) (fun j hj => by rw [if_pos (by omega), Nat.sub_zero]) ?_
    intro u4 M
    replace M : Mem ⟨w, []⟩ [⟨g1, .cells (av 3 (ls [.bool false, .int .u64 0, .int .u64 0])) 24⟩, ⟨g2, .cells (av 3 (ls [.bool (lV s), .int .u64 (lH s), .int .u64 (lL s)])) 24⟩] u4 := M
    refine pl_val (want_no rfl) (some 5) rfl (.bool false) (fun _ => by kernel_rfl) ?_
    refine pl_nil ?_
    refine au_then ?_
    refine wp_seq ?_
    refine rg_lit ?_
    refine pl_val (want_no rfl) (some 11) rfl (.bool false) (fun _ => by kernel_rfl) ?_
    refine pl_val (want_no rfl) (some 12) rfl (.bool false) (fun _ => by kernel_rfl) ?_
    refine pl_skip (want_off 1 true rfl 12 rfl (by kernel_rfl)) (some 13) rfl ?_
    refine pl_skip (want_off 1 true rfl 12 rfl (by kernel_rfl)) (some 14) rfl ?_
    refine pl_skip (want_off 1 true rfl 12 rfl (by kernel_rfl)) (some 15) rfl ?_
    refine pl_skip (want_off 1 true rfl 12 rfl (by kernel_rfl)) (some 16) rfl ?_
    refine pl_val (want_no rfl) (some 17) rfl (.bool false) (fun _ => by kernel_rfl) ?_
    refine pl_nil ?_
    refine au_then ?_
    refine wp_cond_false (by kernel_rfl) ?_
    refine wp_skip ?_
    refine au_then ?_
    refine wp_seq ?_
    refine rg_lit ?_
    refine pl_val (want_no rfl) (some 19) rfl (.agg (av 3 (ls [.bool false, .int .u64 0, .int .u64 0]))) (fun _ => by kernel_rfl) ?_
    refine pl_put M (want_no rfl) rfl 24 _ _ rfl 0 g1 0 (by kernel_rfl) 3 24 (ls [.bool false, .int .u64 0, .int .u64 0]) rfl 3 (ls [.bool false, .int .u64 0, .int .u64 0]) (ls [.bool false, .int .u64 0, .int .u64 0]) (by kernel_rfl) inz24 (by decide) (one_ls _ rfl) (fun j hj => by rw [if_pos (by omega), Nat.sub_zero]) ?_
    intro u5 M
    replace M : Mem ⟨w, []⟩ [⟨g1, .cells (av 3 (ls [.bool false, .int .u64 0, .int .u64 0])) 24⟩, ⟨g2, .cells (av 3 (ls [.bool (lV s), .int .u64 (lH s), .int .u64 (lL s)])) 24⟩] u5 := M
    refine pl_val (want_no rfl) (some 3) rfl (.int .i64 8) (fun _ => by kernel_rfl) ?_
    refine pl_nil ?_
    refine au_then ?_
    refine wp_ret ?_
    have e0 : zB (rdE s) (lV s) = false := by rw [(show rdE s = 8 by unfold rdE; rw [if_neg (by rw [c0]; decide)])]; rfl
    have e1 : (zI (rdE s) (lH s)) = 0 := by rw [(show rdE s = 8 by unfold rdE; rw [if_neg (by rw [c0]; decide)])]; rfl
    have e2 : (zI (rdE s) (lL s)) = 0 := by rw [(show rdE s = 8 by unfold rdE; rw [if_neg (by rw [c0]; decide)])]; rfl
    have e3 : (rdE s) = 8 := (show rdE s = 8 by unfold rdE; rw [if_neg (by rw [c0]; decide)])
    exact bodyPost_ret (v := .tuple #[.agg (av 3 (ls [.bool false, .int .u64 0, .int .u64 0])), .int .i64 8]) (results_cell_tmp Tryz.results18 _ _ g1 24 (av 3 (ls [.bool false, .int .u64 0, .int .u64 0])) (0, 0) _ _ (by kernel_rfl) (by kernel_rfl) (M.get 0 rfl) Tryz.underlying24 rfl (by rw [av_size]; exact inz24)) (by kernel_rfl) ⟨by rw [e0, e1, e2, e3], below_grown M.old⟩

def rpV (s : ByteArray) : Bool := zB (rdE (cuA s ⟨#[47]⟩)) (lV (cuA s ⟨#[47]⟩))
def rpH (s : ByteArray) : Int := zI (rdE (cuA s ⟨#[47]⟩)) (lH (cuA s ⟨#[47]⟩))
def rpL (s : ByteArray) : Int := zI (rdE (cuA s ⟨#[47]⟩)) (lL (cuA s ⟨#[47]⟩))
def rpB (s : ByteArray) : Int := (nmb 10 255 (cuB s ⟨#[47]⟩)).getD 0
def rpE (s : ByteArray) : Int := if rdE (cuA s ⟨#[47]⟩) = 0 then (if (nmb 10 255 (cuB s ⟨#[47]⟩)).isSome = true then (if ptx (rpV s) (rpH s) (rpL s) (rpB s) = s then 0 else 8) else 8) else 8
theorem nmb_le (s : ByteArray) : 0 ≤ (nmb 10 255 s).getD 0 ∧ (nmb 10 255 s).getD 0 ≤ 255 := by
  unfold nmb
  split
  · decide
  · cases h : prs 10 255 s with
    | none => decide
    | some x => exact prs_lt10 h
set_option maxRecDepth 100000 in
set_option maxHeartbeats 4000000 in
set_option linter.unusedSimpArgs false in
theorem c_ReadPrefix (s : ByteArray) (hs : s.size ≤ 200000) (w : World) (hL : Laid w)  :
    Calls Tryz.prog 20 #[.string s] w fun r w' => r = .returned (.tuple #[.agg (av 4 (ls [.bool (zB (rpE s) (rpV s)), .int .u64 (zI (rpE s) (rpH s)), .int .u64 (zI (rpE s) (rpL s)), .int .u8 (zI (rpE s) (rpB s))])), .int .i64 (rpE s)]) ∧ Below w.heap.size w w' := by
  go_enter Tryz.func20, Tryz.ntmps20
  have M := Mem.start hL
  refine wp_seq ?_
  refine rg_lit ?_
  refine pl_new M (want_no rfl) (some 2) rfl (.cells (av 4 (ls [.bool false, .int .u64 0, .int .u64 0, .int .u8 0])) 39) (fun _ => by kernel_rfl) ?_
  intro g1 u1 M
  replace M : Mem ⟨w, []⟩ [⟨g1, .cells (av 4 (ls [.bool false, .int .u64 0, .int .u64 0, .int .u8 0])) 39⟩] u1 := M
  refine pl_val (want_no rfl) (some 3) rfl (.int .i64 0) (fun _ => by kernel_rfl) ?_
  refine pl_nil ?_
  refine au_then ?_
  refine wp_seq ?_
  refine rg_lit ?_
  refine pl_val (want_no rfl) (some 13) rfl (.string s) (fun _ => by kernel_rfl) ?_
  refine pl_call M (want_no rfl) (some 14) rfl 46 #[.string s, .string ⟨#[47]⟩] (.tuple #[.string (cuA s ⟨#[47]⟩), .string (cuB s ⟨#[47]⟩), .bool (cuC s ⟨#[47]⟩)]) (fun _ => by kernel_rfl) (fun w M => c_Cut s ⟨#[47]⟩ (by omega) w M.laid) ?_
  intro u2 M
  refine pl_val (want_no rfl) (some 12) rfl (.tuple #[.string (cuA s ⟨#[47]⟩), .string (cuB s ⟨#[47]⟩), .bool (cuC s ⟨#[47]⟩)]) (fun _ => by kernel_rfl) ?_
  refine pl_val (want_no rfl) (some 15) rfl (.string (cuA s ⟨#[47]⟩)) (fun _ => by kernel_rfl) ?_
  refine pl_val (want_no rfl) (some 16) rfl (.string (cuB s ⟨#[47]⟩)) (fun _ => by kernel_rfl) ?_
  refine pl_val (want_no rfl) (some 17) rfl (.bool (cuC s ⟨#[47]⟩)) (fun _ => by kernel_rfl) ?_
  refine pl_val (want_no rfl) (some 4) rfl (.string (cuA s ⟨#[47]⟩)) (fun _ => by kernel_rfl) ?_
  refine pl_val (want_no rfl) (some 5) rfl (.string (cuB s ⟨#[47]⟩)) (fun _ => by kernel_rfl) ?_
  refine pl_val (want_no rfl) (some 6) rfl (.bool (cuC s ⟨#[47]⟩)) (fun _ => by kernel_rfl) ?_
  refine pl_nil ?_
  refine au_then ?_
  refine wp_seq ?_
  refine rg_lit ?_
  refine pl_val (want_no rfl) (some 19) rfl (.string (cuA s ⟨#[47]⟩)) (fun _ => by kernel_rfl) ?_
  refine pl_call M (want_no rfl) (some 20) rfl 18 #[.string (cuA s ⟨#[47]⟩)] (.tuple #[.agg (av 3 (ls [.bool (rpV s), .int .u64 (rpH s), .int .u64 (rpL s)])), .int .i64 (rdE (cuA s ⟨#[47]⟩))]) (fun _ => by kernel_rfl) (fun w M => c_Read (cuA s ⟨#[47]⟩) w M.laid) ?_
  intro u3 M
  refine pl_val (want_no rfl) (some 18) rfl (.tuple #[.agg (av 3 (ls [.bool (rpV s), .int .u64 (rpH s), .int .u64 (rpL s)])), .int .i64 (rdE (cuA s ⟨#[47]⟩))]) (fun _ => by kernel_rfl) ?_
  refine pl_val (want_no rfl) (some 21) rfl (.agg (av 3 (ls [.bool (rpV s), .int .u64 (rpH s), .int .u64 (rpL s)]))) (fun _ => by kernel_rfl) ?_
  refine pl_val (want_no rfl) (some 22) rfl (.int .i64 (rdE (cuA s ⟨#[47]⟩))) (fun _ => by kernel_rfl) ?_
  refine pl_new M (want_no rfl) (some 7) rfl (.cells (av 3 (ls [.bool false, .int .u64 0, .int .u64 0])) 24) (fun _ => by kernel_rfl) ?_
  intro g2 u4 M
  replace M : Mem ⟨w, []⟩ [⟨g1, .cells (av 4 (ls [.bool false, .int .u64 0, .int .u64 0, .int .u8 0])) 39⟩, ⟨g2, .cells (av 3 (ls [.bool false, .int .u64 0, .int .u64 0])) 24⟩] u4 := M
  refine pl_put M (want_no rfl) rfl 24 _ _ rfl 1 g2 0 (by kernel_rfl) 3 24 (ls [.bool false, .int .u64 0, .int .u64 0]) rfl 3 (ls [.bool (rpV s), .int .u64 (rpH s), .int .u64 (rpL s)]) (ls [.bool (rpV s), .int .u64 (rpH s), .int .u64 (rpL s)]) (by kernel_rfl) inz24 (by decide) (one_ls _ rfl) (fun j hj => by rw [if_pos (by omega), Nat.sub_zero]) ?_
  intro u5 M
  replace M : Mem ⟨w, []⟩ [⟨g1, .cells (av 4 (ls [.bool false, .int .u64 0, .int .u64 0, .int .u8 0])) 39⟩, ⟨g2, .cells (av 3 (ls [.bool (rpV s), .int .u64 (rpH s), .int .u64 (rpL s)])) 24⟩] u5 := M
  refine pl_val (want_no rfl) (some 8) rfl (.int .i64 (rdE (cuA s ⟨#[47]⟩))) (fun _ => by kernel_rfl) ?_
  refine pl_nil ?_
  refine au_then ?_
  refine wp_seq ?_
  refine rg_lit ?_
  refine pl_val (want_no rfl) (some 24) rfl (.string (cuB s ⟨#[47]⟩)) (fun _ => by kernel_rfl) ?_
  refine pl_call M (want_no rfl) (some 25) rfl 47 #[.string (cuB s ⟨#[47]⟩), .int .i64 10, .int .i64 8] (.tuple #[.int .u16 (rpB s), .bool (nmb 10 255 (cuB s ⟨#[47]⟩)).isSome]) (fun _ => by kernel_rfl) (fun w M => c_number10 (cuB s ⟨#[47]⟩) w M.laid) ?_
  intro u6 M
  refine pl_val (want_no rfl) (some 23) rfl (.tuple #[.int .u16 (rpB s), .bool (nmb 10 255 (cuB s ⟨#[47]⟩)).isSome]) (fun _ => by kernel_rfl) ?_
  refine pl_val (want_no rfl) (some 26) rfl (.int .u16 (rpB s)) (fun _ => by kernel_rfl) ?_
  refine pl_val (want_no rfl) (some 27) rfl (.bool (nmb 10 255 (cuB s ⟨#[47]⟩)).isSome) (fun _ => by kernel_rfl) ?_
  refine pl_val (want_no rfl) (some 9) rfl (.int .u16 (rpB s)) (fun _ => by kernel_rfl) ?_
  refine pl_val (want_no rfl) (some 10) rfl (.bool (nmb 10 255 (cuB s ⟨#[47]⟩)).isSome) (fun _ => by kernel_rfl) ?_
  refine pl_nil ?_
  refine au_then ?_
  refine wp_seq ?_
  refine rg_lit ?_
  refine pl_load M (want_no rfl) (some 28) rfl 24 _ rfl 1 g2 0 (by kernel_rfl) 3 24 (ls [.bool (rpV s), .int .u64 (rpH s), .int .u64 (rpL s)]) rfl 3 (ls [.bool (rpV s), .int .u64 (rpH s), .int .u64 (rpL s)]) (fun j _ => by rw [Nat.zero_add]) (by decide) _ Tryz.underlying24 rfl inz24 ?_
  refine pl_val (want_no rfl) (some 29) rfl (.int .u16 (rpB s)) (fun _ => by kernel_rfl) ?_
  refine pl_val (want_no rfl) (some 30) rfl (.int .u8 (rpB s)) (fun w => Eq.trans (b := .ok (.value (.int .u8 (cv .u8 (rpB s)))) w) (by kernel_rfl) (by have : 0 ≤ rpB s ∧ rpB s ≤ 255 := nmb_le _; rw [cv_u8]; congr 3; omega)) ?_
  refine pl_val (want_no rfl) (some 31) rfl (.agg (av 4 (ls [.bool (rpV s), .int .u64 (rpH s), .int .u64 (rpL s), .int .u8 (rpB s)]))) (fun _ => by kernel_rfl) ?_
  refine pl_new M (want_no rfl) (some 11) rfl (.cells (av 4 (ls [.bool false, .int .u64 0, .int .u64 0, .int .u8 0])) 39) (fun _ => by kernel_rfl) ?_
  intro g3 u7 M
  replace M : Mem ⟨w, []⟩ [⟨g1, .cells (av 4 (ls [.bool false, .int .u64 0, .int .u64 0, .int .u8 0])) 39⟩, ⟨g2, .cells (av 3 (ls [.bool (rpV s), .int .u64 (rpH s), .int .u64 (rpL s)])) 24⟩, ⟨g3, .cells (av 4 (ls [.bool false, .int .u64 0, .int .u64 0, .int .u8 0])) 39⟩] u7 := M
  refine pl_put M (want_no rfl) rfl 39 _ _ rfl 2 g3 0 (by kernel_rfl) 4 39 (ls [.bool false, .int .u64 0, .int .u64 0, .int .u8 0]) rfl 4 (ls [.bool (rpV s), .int .u64 (rpH s), .int .u64 (rpL s), .int .u8 (rpB s)]) (ls [.bool (rpV s), .int .u64 (rpH s), .int .u64 (rpL s), .int .u8 (rpB s)]) (by kernel_rfl) inz39 (by decide) (one_ls _ rfl) (fun j hj => by rw [if_pos (by omega), Nat.sub_zero]) ?_
  intro u8 M
  replace M : Mem ⟨w, []⟩ [⟨g1, .cells (av 4 (ls [.bool false, .int .u64 0, .int .u64 0, .int .u8 0])) 39⟩, ⟨g2, .cells (av 3 (ls [.bool (rpV s), .int .u64 (rpH s), .int .u64 (rpL s)])) 24⟩, ⟨g3, .cells (av 4 (ls [.bool (rpV s), .int .u64 (rpH s), .int .u64 (rpL s), .int .u8 (rpB s)])) 39⟩] u8 := M
  refine pl_nil ?_
  refine au_then ?_
  refine wp_seq ?_
  refine wp_seq ?_
  refine rg_lit ?_
  refine pl_val (want_no rfl) (some 32) rfl (.int .i64 (rdE (cuA s ⟨#[47]⟩))) (fun _ => by kernel_rfl) ?_
  by_cases c0 : (rdE (cuA s ⟨#[47]⟩)) = 0
  · skip
    refine pl_val (want_no rfl) (some 33) rfl (.bool true) (fun w => Eq.trans (b := .ok (.value (.bool (decide ((rdE (cuA s ⟨#[47]⟩)) = 0)))) w) (by kernel_rfl) (by rw [decide_eq_true (c0)])) ?_
    refine pl_val (want_no rfl) (some 34) rfl (.bool true) (fun _ => by kernel_rfl) ?_
    rcases Bool.eq_false_or_eq_true ((nmb 10 255 (cuB s ⟨#[47]⟩)).isSome) with c1 | c1
    · skip
      refine pl_val (want_on 2 true rfl 34 rfl (by kernel_rfl)) (some 35) rfl (.bool true) (fun w => Eq.trans (b := .ok (.value (.bool (nmb 10 255 (cuB s ⟨#[47]⟩)).isSome)) w) (by kernel_rfl) (by rw [c1])) ?_
      refine pl_val (want_no rfl) (some 36) rfl (.bool true) (fun _ => by kernel_rfl) ?_
      refine pl_val (want_no rfl) (some 37) rfl (.bool true) (fun _ => by kernel_rfl) ?_
      refine pl_load M (want_on 5 true rfl 37 rfl (by kernel_rfl)) (some 38) rfl 39 _ rfl 2 g3 0 (by kernel_rfl) 4 39 (ls [.bool (rpV s), .int .u64 (rpH s), .int .u64 (rpL s), .int .u8 (rpB s)]) rfl 4 (ls [.bool (rpV s), .int .u64 (rpH s), .int .u64 (rpL s), .int .u8 (rpB s)]) (fun j _ => by rw [Nat.zero_add]) (by decide) _ Tryz.underlying39 rfl inz39 ?_
      refine pl_call M (want_on 5 true rfl 37 rfl (by kernel_rfl)) (some 39) rfl 24 #[.agg (av 4 (ls [.bool (rpV s), .int .u64 (rpH s), .int .u64 (rpL s), .int .u8 (rpB s)]))] (.string (ptx (rpV s) (rpH s) (rpL s) (rpB s))) (fun _ => by kernel_rfl) (fun w M => c_PrefixText (rpV s) (rpH s) (rpL s) (rpB s) (nmb_le _).1 (nmb_le _).2 w M.laid) ?_
      intro u9 M
      refine pl_val (want_on 5 true rfl 37 rfl (by kernel_rfl)) (some 40) rfl (.string s) (fun _ => by kernel_rfl) ?_
      by_cases c2 : (ptx (rpV s) (rpH s) (rpL s) (rpB s)) = s
      · skip
        refine pl_val (want_on 5 true rfl 37 rfl (by kernel_rfl)) (some 41) rfl (.bool true) (fun w => Eq.trans (b := .ok (.value (.bool ((ptx (rpV s) (rpH s) (rpL s) (rpB s)).toList == s.toList))) w) (by kernel_rfl) (by rw [seq_pos c2])) ?_
        refine pl_val (want_no rfl) (some 42) rfl (.bool true) (fun _ => by kernel_rfl) ?_
        refine pl_nil ?_
        refine au_then ?_
        refine wp_cond_true (by kernel_rfl) ?_
        refine wp_seq ?_
        refine rg_lit ?_
        refine pl_load M (want_no rfl) (some 43) rfl 39 _ rfl 2 g3 0 (by kernel_rfl) 4 39 (ls [.bool (rpV s), .int .u64 (rpH s), .int .u64 (rpL s), .int .u8 (rpB s)]) rfl 4 (ls [.bool (rpV s), .int .u64 (rpH s), .int .u64 (rpL s), .int .u8 (rpB s)]) (fun j _ => by rw [Nat.zero_add]) (by decide) _ Tryz.underlying39 rfl inz39 ?_
        refine pl_put M (want_no rfl) rfl 39 _ _ rfl 0 g1 0 (by kernel_rfl) 4 39 (ls [.bool false, .int .u64 0, .int .u64 0, .int .u8 0]) rfl 4 (ls [.bool (rpV s), .int .u64 (rpH s), .int .u64 (rpL s), .int .u8 (rpB s)]) (ls [.bool (rpV s), .int .u64 (rpH s), .int .u64 (rpL s), .int .u8 (rpB s)]) (by kernel_rfl) inz39 (by decide) (one_ls _ rfl) (fun j hj => by rw [if_pos (by omega), Nat.sub_zero]) ?_
        intro u10 M
        replace M : Mem ⟨w, []⟩ [⟨g1, .cells (av 4 (ls [.bool (rpV s), .int .u64 (rpH s), .int .u64 (rpL s), .int .u8 (rpB s)])) 39⟩, ⟨g2, .cells (av 3 (ls [.bool (rpV s), .int .u64 (rpH s), .int .u64 (rpL s)])) 24⟩, ⟨g3, .cells (av 4 (ls [.bool (rpV s), .int .u64 (rpH s), .int .u64 (rpL s), .int .u8 (rpB s)])) 39⟩] u10 := M
        refine pl_val (want_no rfl) (some 3) rfl (.int .i64 0) (fun _ => by kernel_rfl) ?_
        refine pl_nil ?_
        refine au_then ?_
        refine wp_ret ?_
        refine au_then_ret ?_
        have e0 : zB (rpE s) (rpV s) = rpV s := by rw [(show rpE s = 0 by unfold rpE; rw [if_pos c0, if_pos c1, if_pos c2])]; rfl
        have e1 : (zI (rpE s) (rpH s)) = (rpH s) := by rw [(show rpE s = 0 by unfold rpE; rw [if_pos c0, if_pos c1, if_pos c2])]; rfl
        have e2 : (zI (rpE s) (rpL s)) = (rpL s) := by rw [(show rpE s = 0 by unfold rpE; rw [if_pos c0, if_pos c1, if_pos c2])]; rfl
        have e3 : (zI (rpE s) (rpB s)) = (rpB s) := by rw [(show rpE s = 0 by unfold rpE; rw [if_pos c0, if_pos c1, if_pos c2])]; rfl
        have e4 : (rpE s) = 0 := (show rpE s = 0 by unfold rpE; rw [if_pos c0, if_pos c1, if_pos c2])
        exact bodyPost_ret (v := .tuple #[.agg (av 4 (ls [.bool (rpV s), .int .u64 (rpH s), .int .u64 (rpL s), .int .u8 (rpB s)])), .int .i64 0]) (results_cell_tmp Tryz.results20 _ _ g1 39 (av 4 (ls [.bool (rpV s), .int .u64 (rpH s), .int .u64 (rpL s), .int .u8 (rpB s)])) (0, 0) _ _ (by kernel_rfl) (by kernel_rfl) (M.get 0 rfl) Tryz.underlying39 rfl (by rw [av_size]; exact inz39)) (by kernel_rfl) ⟨by rw [e0, e1, e2, e3, e4], below_grown M.old⟩
      · skip
        refine pl_val (want_on 5 true rfl 37 rfl (by kernel_rfl)) (some 41) rfl (.bool false) (fun w => Eq.trans (b := .ok (.value (.bool ((ptx (rpV s) (rpH s) (rpL s) (rpB s)).toList == s.toList))) w) (by kernel_rfl) (by rw [seq_neg c2])) ?_
        refine pl_val (want_no rfl) (some 42) rfl (.bool false) (fun _ => by kernel_rfl) ?_
        refine pl_nil ?_
        refine au_then ?_
        refine wp_cond_false (by kernel_rfl) ?_
        refine wp_skip ?_
        refine au_then ?_
        refine wp_seq ?_
        refine rg_lit ?_
        refine pl_val (want_no rfl) (some 44) rfl (.agg (av 4 (ls [.bool false, .int .u64 0, .int .u64 0, .int .u8 0]))) (fun _ => by kernel_rfl) ?_
        refine pl_put M (want_no rfl) rfl 39 _ _ rfl 0 g1 0 (by kernel_rfl) 4 39 (ls [.bool false, .int .u64 0, .int .u64 0, .int .u8 0]) rfl 4 (ls [.bool false, .int .u64 0, .int .u64 0, .int .u8 0]) (ls [.bool false, .int .u64 0, .int .u64 0, .int .u8 0]) (by kernel_rfl) inz39 (by decide) (one_ls _ rfl) (fun j hj => by rw [if_pos (by omega), Nat.sub_zero]) ?_
        intro u10 M
        replace M : Mem ⟨w, []⟩ [⟨g1, .cells (av 4 (ls [.bool false, .int .u64 0, .int .u64 0, .int .u8 0])) 39⟩, ⟨g2, .cells (av 3 (ls [.bool (rpV s), .int .u64 (rpH s), .int .u64 (rpL s)])) 24⟩, ⟨g3, .cells (av 4 (ls [.bool (rpV s), .int .u64 (rpH s), .int .u64 (rpL s), .int .u8 (rpB s)])) 39⟩] u10 := M
        refine pl_val (want_no rfl) (some 3) rfl (.int .i64 8) (fun _ => by kernel_rfl) ?_
        refine pl_nil ?_
        refine au_then ?_
        refine wp_ret ?_
        have e0 : zB (rpE s) (rpV s) = false := by rw [(show rpE s = 8 by unfold rpE; rw [if_pos c0, if_pos c1, if_neg c2])]; rfl
        have e1 : (zI (rpE s) (rpH s)) = 0 := by rw [(show rpE s = 8 by unfold rpE; rw [if_pos c0, if_pos c1, if_neg c2])]; rfl
        have e2 : (zI (rpE s) (rpL s)) = 0 := by rw [(show rpE s = 8 by unfold rpE; rw [if_pos c0, if_pos c1, if_neg c2])]; rfl
        have e3 : (zI (rpE s) (rpB s)) = 0 := by rw [(show rpE s = 8 by unfold rpE; rw [if_pos c0, if_pos c1, if_neg c2])]; rfl
        have e4 : (rpE s) = 8 := (show rpE s = 8 by unfold rpE; rw [if_pos c0, if_pos c1, if_neg c2])
        exact bodyPost_ret (v := .tuple #[.agg (av 4 (ls [.bool false, .int .u64 0, .int .u64 0, .int .u8 0])), .int .i64 8]) (results_cell_tmp Tryz.results20 _ _ g1 39 (av 4 (ls [.bool false, .int .u64 0, .int .u64 0, .int .u8 0])) (0, 0) _ _ (by kernel_rfl) (by kernel_rfl) (M.get 0 rfl) Tryz.underlying39 rfl (by rw [av_size]; exact inz39)) (by kernel_rfl) ⟨by rw [e0, e1, e2, e3, e4], below_grown M.old⟩
    · skip
      refine pl_val (want_on 2 true rfl 34 rfl (by kernel_rfl)) (some 35) rfl (.bool false) (fun w => Eq.trans (b := .ok (.value (.bool (nmb 10 255 (cuB s ⟨#[47]⟩)).isSome)) w) (by kernel_rfl) (by rw [c1])) ?_
      refine pl_val (want_no rfl) (some 36) rfl (.bool false) (fun _ => by kernel_rfl) ?_
      refine pl_val (want_no rfl) (some 37) rfl (.bool false) (fun _ => by kernel_rfl) ?_
      refine pl_skip (want_off 5 true rfl 37 rfl (by kernel_rfl)) (some 38) rfl ?_
      refine pl_skip (want_off 5 true rfl 37 rfl (by kernel_rfl)) (some 39) rfl ?_
      refine pl_skip (want_off 5 true rfl 37 rfl (by kernel_rfl)) (some 40) rfl ?_
      refine pl_skip (want_off 5 true rfl 37 rfl (by kernel_rfl)) (some 41) rfl ?_
      refine pl_val (want_no rfl) (some 42) rfl (.bool false) (fun _ => by kernel_rfl) ?_
      refine pl_nil ?_
      refine au_then ?_
      refine wp_cond_false (by kernel_rfl) ?_
      refine wp_skip ?_
      refine au_then ?_
      refine wp_seq ?_
      refine rg_lit ?_
      refine pl_val (want_no rfl) (some 44) rfl (.agg (av 4 (ls [.bool false, .int .u64 0, .int .u64 0, .int .u8 0]))) (fun _ => by kernel_rfl) ?_
      refine pl_put M (want_no rfl) rfl 39 _ _ rfl 0 g1 0 (by kernel_rfl) 4 39 (ls [.bool false, .int .u64 0, .int .u64 0, .int .u8 0]) rfl 4 (ls [.bool false, .int .u64 0, .int .u64 0, .int .u8 0]) (ls [.bool false, .int .u64 0, .int .u64 0, .int .u8 0]) (by kernel_rfl) inz39 (by decide) (one_ls _ rfl) (fun j hj => by rw [if_pos (by omega), Nat.sub_zero]) ?_
      intro u9 M
      replace M : Mem ⟨w, []⟩ [⟨g1, .cells (av 4 (ls [.bool false, .int .u64 0, .int .u64 0, .int .u8 0])) 39⟩, ⟨g2, .cells (av 3 (ls [.bool (rpV s), .int .u64 (rpH s), .int .u64 (rpL s)])) 24⟩, ⟨g3, .cells (av 4 (ls [.bool (rpV s), .int .u64 (rpH s), .int .u64 (rpL s), .int .u8 (rpB s)])) 39⟩] u9 := M
      refine pl_val (want_no rfl) (some 3) rfl (.int .i64 8) (fun _ => by kernel_rfl) ?_
      refine pl_nil ?_
      refine au_then ?_
      refine wp_ret ?_
      have e0 : zB (rpE s) (rpV s) = false := by rw [(show rpE s = 8 by unfold rpE; rw [if_pos c0, if_neg (by rw [c1]; decide)])]; rfl
      have e1 : (zI (rpE s) (rpH s)) = 0 := by rw [(show rpE s = 8 by unfold rpE; rw [if_pos c0, if_neg (by rw [c1]; decide)])]; rfl
      have e2 : (zI (rpE s) (rpL s)) = 0 := by rw [(show rpE s = 8 by unfold rpE; rw [if_pos c0, if_neg (by rw [c1]; decide)])]; rfl
      have e3 : (zI (rpE s) (rpB s)) = 0 := by rw [(show rpE s = 8 by unfold rpE; rw [if_pos c0, if_neg (by rw [c1]; decide)])]; rfl
      have e4 : (rpE s) = 8 := (show rpE s = 8 by unfold rpE; rw [if_pos c0, if_neg (by rw [c1]; decide)])
      exact bodyPost_ret (v := .tuple #[.agg (av 4 (ls [.bool false, .int .u64 0, .int .u64 0, .int .u8 0])), .int .i64 8]) (results_cell_tmp Tryz.results20 _ _ g1 39 (av 4 (ls [.bool false, .int .u64 0, .int .u64 0, .int .u8 0])) (0, 0) _ _ (by kernel_rfl) (by kernel_rfl) (M.get 0 rfl) Tryz.underlying39 rfl (by rw [av_size]; exact inz39)) (by kernel_rfl) ⟨by rw [e0, e1, e2, e3, e4], below_grown M.old⟩
  · skip
    refine pl_val (want_no rfl) (some 33) rfl (.bool false) (fun w => Eq.trans (b := .ok (.value (.bool (decide ((rdE (cuA s ⟨#[47]⟩)) = 0)))) w) (by kernel_rfl) (by rw [decide_eq_false (c0)])) ?_
    refine pl_val (want_no rfl) (some 34) rfl (.bool false) (fun _ => by kernel_rfl) ?_
    refine pl_skip (want_off 2 true rfl 34 rfl (by kernel_rfl)) (some 35) rfl ?_
    refine pl_val (want_no rfl) (some 36) rfl (.bool false) (fun _ => by kernel_rfl) ?_
    refine pl_val (want_no rfl) (some 37) rfl (.bool false) (fun _ => by kernel_rfl) ?_
    refine pl_skip (want_off 5 true rfl 37 rfl (by kernel_rfl)) (some 38) rfl ?_
    refine pl_skip (want_off 5 true rfl 37 rfl (by kernel_rfl)) (some 39) rfl ?_
    refine pl_skip (want_off 5 true rfl 37 rfl (by kernel_rfl)) (some 40) rfl ?_
    refine pl_skip (want_off 5 true rfl 37 rfl (by kernel_rfl)) (some 41) rfl ?_
    refine pl_val (want_no rfl) (some 42) rfl (.bool false) (fun _ => by kernel_rfl) ?_
    refine pl_nil ?_
    refine au_then ?_
    refine wp_cond_false (by kernel_rfl) ?_
    refine wp_skip ?_
    refine au_then ?_
    refine wp_seq ?_
    refine rg_lit ?_
    refine pl_val (want_no rfl) (some 44) rfl (.agg (av 4 (ls [.bool false, .int .u64 0, .int .u64 0, .int .u8 0]))) (fun _ => by kernel_rfl) ?_
    refine pl_put M (want_no rfl) rfl 39 _ _ rfl 0 g1 0 (by kernel_rfl) 4 39 (ls [.bool false, .int .u64 0, .int .u64 0, .int .u8 0]) rfl 4 (ls [.bool false, .int .u64 0, .int .u64 0, .int .u8 0]) (ls [.bool false, .int .u64 0, .int .u64 0, .int .u8 0]) (by kernel_rfl) inz39 (by decide) (one_ls _ rfl) (fun j hj => by rw [if_pos (by omega), Nat.sub_zero]) ?_
    intro u9 M
    replace M : Mem ⟨w, []⟩ [⟨g1, .cells (av 4 (ls [.bool false, .int .u64 0, .int .u64 0, .int .u8 0])) 39⟩, ⟨g2, .cells (av 3 (ls [.bool (rpV s), .int .u64 (rpH s), .int .u64 (rpL s)])) 24⟩, ⟨g3, .cells (av 4 (ls [.bool (rpV s), .int .u64 (rpH s), .int .u64 (rpL s), .int .u8 (rpB s)])) 39⟩] u9 := M
    refine pl_val (want_no rfl) (some 3) rfl (.int .i64 8) (fun _ => by kernel_rfl) ?_
    refine pl_nil ?_
    refine au_then ?_
    refine wp_ret ?_
    have e0 : zB (rpE s) (rpV s) = false := by rw [(show rpE s = 8 by unfold rpE; rw [if_neg c0])]; rfl
    have e1 : (zI (rpE s) (rpH s)) = 0 := by rw [(show rpE s = 8 by unfold rpE; rw [if_neg c0])]; rfl
    have e2 : (zI (rpE s) (rpL s)) = 0 := by rw [(show rpE s = 8 by unfold rpE; rw [if_neg c0])]; rfl
    have e3 : (zI (rpE s) (rpB s)) = 0 := by rw [(show rpE s = 8 by unfold rpE; rw [if_neg c0])]; rfl
    have e4 : (rpE s) = 8 := (show rpE s = 8 by unfold rpE; rw [if_neg c0])
    exact bodyPost_ret (v := .tuple #[.agg (av 4 (ls [.bool false, .int .u64 0, .int .u64 0, .int .u8 0])), .int .i64 8]) (results_cell_tmp Tryz.results20 _ _ g1 39 (av 4 (ls [.bool false, .int .u64 0, .int .u64 0, .int .u8 0])) (0, 0) _ _ (by kernel_rfl) (by kernel_rfl) (M.get 0 rfl) Tryz.underlying39 rfl (by rw [av_size]; exact inz39)) (by kernel_rfl) ⟨by rw [e0, e1, e2, e3, e4], below_grown M.old⟩


end Go.Proofs.YtndonmdgplojnaaGreatDoor

/- One packet, one prefix: the known run that every statement asks. -/
namespace Go.Proofs.YtndonmdgplojnaaGreatDoor
open Go.RowKit

set_option maxRecDepth 100000 in
set_option maxHeartbeats 4000000 in
set_option linter.unusedSimpArgs false in
theorem c_works  (w : World) (hL : Laid w)  :
    Calls Tryz.prog 9 #[] w fun r w' => r = .returned (.bool true) ∧ Below w.heap.size w w' := by
  go_enter Tryz.func9, Tryz.ntmps9
  have M := Mem.start hL
  refine wp_seq ?_
  refine rg_lit ?_
  refine pl_val (want_no rfl) (some 0) rfl (.bool false) (fun _ => by kernel_rfl) ?_
  refine pl_nil ?_
  refine au_then ?_
  refine wp_seq ?_
  refine rg_lit ?_
  refine pl_val (want_no rfl) (some 10) rfl (.agg (av 3 (ls [.bool false, .int .u64 0, .int .u64 167772161]))) (fun _ => by kernel_rfl) ?_
  refine pl_val (want_no rfl) (some 11) rfl (.agg (av 3 (ls [.bool false, .int .u64 0, .int .u64 167772162]))) (fun _ => by kernel_rfl) ?_
  refine pl_val (want_no rfl) (some 12) rfl (.agg (av 9 (ls [.bool false, .int .u64 0, .int .u64 167772161, .bool false, .int .u64 0, .int .u64 167772162, .int .u8 17, .int .u8 64, .string ⟨#[97, 98]⟩]))) (fun _ => by kernel_rfl) ?_
  refine pl_new M (want_no rfl) (some 1) rfl (.cells (av 9 (ls [.bool false, .int .u64 0, .int .u64 0, .bool false, .int .u64 0, .int .u64 0, .int .u8 0, .int .u8 0, .string ⟨#[]⟩])) 26) (fun _ => by kernel_rfl) ?_
  intro g1 u1 M
  replace M : Mem ⟨w, []⟩ [⟨g1, .cells (av 9 (ls [.bool false, .int .u64 0, .int .u64 0, .bool false, .int .u64 0, .int .u64 0, .int .u8 0, .int .u8 0, .string ⟨#[]⟩])) 26⟩] u1 := M
  refine pl_put M (want_no rfl) rfl 26 _ _ rfl 0 g1 0 (by kernel_rfl) 9 26 (ls [.bool false, .int .u64 0, .int .u64 0, .bool false, .int .u64 0, .int .u64 0, .int .u8 0, .int .u8 0, .string ⟨#[]⟩]) rfl 9 (ls [.bool false, .int .u64 0, .int .u64 167772161, .bool false, .int .u64 0, .int .u64 167772162, .int .u8 17, .int .u8 64, .string ⟨#[97, 98]⟩]) (ls [.bool false, .int .u64 0, .int .u64 167772161, .bool false, .int .u64 0, .int .u64 167772162, .int .u8 17, .int .u8 64, .string ⟨#[97, 98]⟩]) (by kernel_rfl) inz26 (by decide) (one_ls _ rfl) (fun j hj => by rw [if_pos (by omega), Nat.sub_zero]) ?_
  intro u2 M
  replace M : Mem ⟨w, []⟩ [⟨g1, .cells (av 9 (ls [.bool false, .int .u64 0, .int .u64 167772161, .bool false, .int .u64 0, .int .u64 167772162, .int .u8 17, .int .u8 64, .string ⟨#[97, 98]⟩])) 26⟩] u2 := M
  refine pl_nil ?_
  refine au_then ?_
  refine wp_seq ?_
  refine rg_lit ?_
  refine pl_load M (want_no rfl) (some 14) rfl 26 _ rfl 0 g1 0 (by kernel_rfl) 9 26 (ls [.bool false, .int .u64 0, .int .u64 167772161, .bool false, .int .u64 0, .int .u64 167772162, .int .u8 17, .int .u8 64, .string ⟨#[97, 98]⟩]) rfl 9 (ls [.bool false, .int .u64 0, .int .u64 167772161, .bool false, .int .u64 0, .int .u64 167772162, .int .u8 17, .int .u8 64, .string ⟨#[97, 98]⟩]) (fun j _ => by rw [Nat.zero_add]) (by decide) _ Tryz.underlying26 rfl inz26 ?_
  refine pl_call M (want_no rfl) (some 15) rfl 10 #[.agg (av 9 (ls [.bool false, .int .u64 0, .int .u64 167772161, .bool false, .int .u64 0, .int .u64 167772162, .int .u8 17, .int .u8 64, .string ⟨#[97, 98]⟩]))] (.tuple #[.string ⟨#[69, 0, 0, 22, 0, 0, 0, 0, 64, 17, 102, 213, 10, 0, 0, 1, 10, 0, 0, 2, 97, 98]⟩, .int .i64 0]) (fun _ => by kernel_rfl) (fun w M => call_val (c_Encode false 0 167772161 false 0 167772162 17 64 ⟨#[97, 98]⟩ (by decide) (by decide) (by decide) w M.laid) (by kernel_rfl)) ?_
  intro u3 M
  refine pl_val (want_no rfl) (some 13) rfl (.tuple #[.string ⟨#[69, 0, 0, 22, 0, 0, 0, 0, 64, 17, 102, 213, 10, 0, 0, 1, 10, 0, 0, 2, 97, 98]⟩, .int .i64 0]) (fun _ => by kernel_rfl) ?_
  refine pl_val (want_no rfl) (some 16) rfl (.string ⟨#[69, 0, 0, 22, 0, 0, 0, 0, 64, 17, 102, 213, 10, 0, 0, 1, 10, 0, 0, 2, 97, 98]⟩) (fun _ => by kernel_rfl) ?_
  refine pl_val (want_no rfl) (some 17) rfl (.int .i64 0) (fun _ => by kernel_rfl) ?_
  refine pl_val (want_no rfl) (some 2) rfl (.string ⟨#[69, 0, 0, 22, 0, 0, 0, 0, 64, 17, 102, 213, 10, 0, 0, 1, 10, 0, 0, 2, 97, 98]⟩) (fun _ => by kernel_rfl) ?_
  refine pl_val (want_no rfl) (some 3) rfl (.int .i64 0) (fun _ => by kernel_rfl) ?_
  refine pl_nil ?_
  refine au_then ?_
  refine wp_seq ?_
  refine rg_lit ?_
  refine pl_val (want_no rfl) (some 19) rfl (.string ⟨#[69, 0, 0, 22, 0, 0, 0, 0, 64, 17, 102, 213, 10, 0, 0, 1, 10, 0, 0, 2, 97, 98]⟩) (fun _ => by kernel_rfl) ?_
  refine pl_call M (want_no rfl) (some 20) rfl 16 #[.string ⟨#[69, 0, 0, 22, 0, 0, 0, 0, 64, 17, 102, 213, 10, 0, 0, 1, 10, 0, 0, 2, 97, 98]⟩] (.tuple #[.agg (av 9 (ls [.bool false, .int .u64 0, .int .u64 167772161, .bool false, .int .u64 0, .int .u64 167772162, .int .u8 17, .int .u8 64, .string ⟨#[97, 98]⟩])), .int .i64 0]) (fun _ => by kernel_rfl) (fun w M => call_val (c_Decode ⟨#[69, 0, 0, 22, 0, 0, 0, 0, 64, 17, 102, 213, 10, 0, 0, 1, 10, 0, 0, 2, 97, 98]⟩ (by decide) w M.laid) (by kernel_rfl)) ?_
  intro u4 M
  refine pl_val (want_no rfl) (some 18) rfl (.tuple #[.agg (av 9 (ls [.bool false, .int .u64 0, .int .u64 167772161, .bool false, .int .u64 0, .int .u64 167772162, .int .u8 17, .int .u8 64, .string ⟨#[97, 98]⟩])), .int .i64 0]) (fun _ => by kernel_rfl) ?_
  refine pl_val (want_no rfl) (some 21) rfl (.agg (av 9 (ls [.bool false, .int .u64 0, .int .u64 167772161, .bool false, .int .u64 0, .int .u64 167772162, .int .u8 17, .int .u8 64, .string ⟨#[97, 98]⟩]))) (fun _ => by kernel_rfl) ?_
  refine pl_val (want_no rfl) (some 22) rfl (.int .i64 0) (fun _ => by kernel_rfl) ?_
  refine pl_new M (want_no rfl) (some 4) rfl (.cells (av 9 (ls [.bool false, .int .u64 0, .int .u64 0, .bool false, .int .u64 0, .int .u64 0, .int .u8 0, .int .u8 0, .string ⟨#[]⟩])) 26) (fun _ => by kernel_rfl) ?_
  intro g2 u5 M
  replace M : Mem ⟨w, []⟩ [⟨g1, .cells (av 9 (ls [.bool false, .int .u64 0, .int .u64 167772161, .bool false, .int .u64 0, .int .u64 167772162, .int .u8 17, .int .u8 64, .string ⟨#[97, 98]⟩])) 26⟩, ⟨g2, .cells (av 9 (ls [.bool false, .int .u64 0, .int .u64 0, .bool false, .int .u64 0, .int .u64 0, .int .u8 0, .int .u8 0, .string ⟨#[]⟩])) 26⟩] u5 := M
  refine pl_put M (want_no rfl) rfl 26 _ _ rfl 1 g2 0 (by kernel_rfl) 9 26 (ls [.bool false, .int .u64 0, .int .u64 0, .bool false, .int .u64 0, .int .u64 0, .int .u8 0, .int .u8 0, .string ⟨#[]⟩]) rfl 9 (ls [.bool false, .int .u64 0, .int .u64 167772161, .bool false, .int .u64 0, .int .u64 167772162, .int .u8 17, .int .u8 64, .string ⟨#[97, 98]⟩]) (ls [.bool false, .int .u64 0, .int .u64 167772161, .bool false, .int .u64 0, .int .u64 167772162, .int .u8 17, .int .u8 64, .string ⟨#[97, 98]⟩]) (by kernel_rfl) inz26 (by decide) (one_ls _ rfl) (fun j hj => by rw [if_pos (by omega), Nat.sub_zero]) ?_
  intro u6 M
  replace M : Mem ⟨w, []⟩ [⟨g1, .cells (av 9 (ls [.bool false, .int .u64 0, .int .u64 167772161, .bool false, .int .u64 0, .int .u64 167772162, .int .u8 17, .int .u8 64, .string ⟨#[97, 98]⟩])) 26⟩, ⟨g2, .cells (av 9 (ls [.bool false, .int .u64 0, .int .u64 167772161, .bool false, .int .u64 0, .int .u64 167772162, .int .u8 17, .int .u8 64, .string ⟨#[97, 98]⟩])) 26⟩] u6 := M
  refine pl_val (want_no rfl) (some 5) rfl (.int .i64 0) (fun _ => by kernel_rfl) ?_
  refine pl_nil ?_
  refine au_then ?_
  refine wp_seq ?_
  refine rg_lit ?_
  refine pl_call M (want_no rfl) (some 24) rfl 20 #[.string ⟨#[49, 48, 46, 48, 46, 48, 46, 48, 47, 56]⟩] (.tuple #[.agg (av 4 (ls [.bool false, .int .u64 0, .int .u64 167772160, .int .u8 8])), .int .i64 0]) (fun _ => by kernel_rfl) (fun w M => call_val (c_ReadPrefix ⟨#[49, 48, 46, 48, 46, 48, 46, 48, 47, 56]⟩ (by decide) w M.laid) (by kernel_rfl)) ?_
  intro u7 M
  refine pl_val (want_no rfl) (some 23) rfl (.tuple #[.agg (av 4 (ls [.bool false, .int .u64 0, .int .u64 167772160, .int .u8 8])), .int .i64 0]) (fun _ => by kernel_rfl) ?_
  refine pl_val (want_no rfl) (some 25) rfl (.agg (av 4 (ls [.bool false, .int .u64 0, .int .u64 167772160, .int .u8 8]))) (fun _ => by kernel_rfl) ?_
  refine pl_val (want_no rfl) (some 26) rfl (.int .i64 0) (fun _ => by kernel_rfl) ?_
  refine pl_new M (want_no rfl) (some 6) rfl (.cells (av 4 (ls [.bool false, .int .u64 0, .int .u64 0, .int .u8 0])) 39) (fun _ => by kernel_rfl) ?_
  intro g3 u8 M
  replace M : Mem ⟨w, []⟩ [⟨g1, .cells (av 9 (ls [.bool false, .int .u64 0, .int .u64 167772161, .bool false, .int .u64 0, .int .u64 167772162, .int .u8 17, .int .u8 64, .string ⟨#[97, 98]⟩])) 26⟩, ⟨g2, .cells (av 9 (ls [.bool false, .int .u64 0, .int .u64 167772161, .bool false, .int .u64 0, .int .u64 167772162, .int .u8 17, .int .u8 64, .string ⟨#[97, 98]⟩])) 26⟩, ⟨g3, .cells (av 4 (ls [.bool false, .int .u64 0, .int .u64 0, .int .u8 0])) 39⟩] u8 := M
  refine pl_put M (want_no rfl) rfl 39 _ _ rfl 2 g3 0 (by kernel_rfl) 4 39 (ls [.bool false, .int .u64 0, .int .u64 0, .int .u8 0]) rfl 4 (ls [.bool false, .int .u64 0, .int .u64 167772160, .int .u8 8]) (ls [.bool false, .int .u64 0, .int .u64 167772160, .int .u8 8]) (by kernel_rfl) inz39 (by decide) (one_ls _ rfl) (fun j hj => by rw [if_pos (by omega), Nat.sub_zero]) ?_
  intro u9 M
  replace M : Mem ⟨w, []⟩ [⟨g1, .cells (av 9 (ls [.bool false, .int .u64 0, .int .u64 167772161, .bool false, .int .u64 0, .int .u64 167772162, .int .u8 17, .int .u8 64, .string ⟨#[97, 98]⟩])) 26⟩, ⟨g2, .cells (av 9 (ls [.bool false, .int .u64 0, .int .u64 167772161, .bool false, .int .u64 0, .int .u64 167772162, .int .u8 17, .int .u8 64, .string ⟨#[97, 98]⟩])) 26⟩, ⟨g3, .cells (av 4 (ls [.bool false, .int .u64 0, .int .u64 167772160, .int .u8 8])) 39⟩] u9 := M
  refine pl_val (want_no rfl) (some 7) rfl (.int .i64 0) (fun _ => by kernel_rfl) ?_
  refine pl_nil ?_
  refine au_then ?_
  refine wp_seq ?_
  refine rg_lit ?_
  refine pl_call M (want_no rfl) (some 28) rfl 18 #[.string ⟨#[48, 49, 48, 46, 48, 46, 48, 46, 49]⟩] (.tuple #[.agg (av 3 (ls [.bool false, .int .u64 0, .int .u64 0])), .int .i64 8]) (fun _ => by kernel_rfl) (fun w M => call_val (c_Read ⟨#[48, 49, 48, 46, 48, 46, 48, 46, 49]⟩ w M.laid) (by kernel_rfl)) ?_
  intro u10 M
  refine pl_val (want_no rfl) (some 27) rfl (.tuple #[.agg (av 3 (ls [.bool false, .int .u64 0, .int .u64 0])), .int .i64 8]) (fun _ => by kernel_rfl) ?_
  refine pl_val (want_no rfl) (some 29) rfl (.agg (av 3 (ls [.bool false, .int .u64 0, .int .u64 0]))) (fun _ => by kernel_rfl) ?_
  refine pl_val (want_no rfl) (some 30) rfl (.int .i64 8) (fun _ => by kernel_rfl) ?_
  refine pl_new M (want_no rfl) (some 8) rfl (.cells (av 3 (ls [.bool false, .int .u64 0, .int .u64 0])) 24) (fun _ => by kernel_rfl) ?_
  intro g4 u11 M
  replace M : Mem ⟨w, []⟩ [⟨g1, .cells (av 9 (ls [.bool false, .int .u64 0, .int .u64 167772161, .bool false, .int .u64 0, .int .u64 167772162, .int .u8 17, .int .u8 64, .string ⟨#[97, 98]⟩])) 26⟩, ⟨g2, .cells (av 9 (ls [.bool false, .int .u64 0, .int .u64 167772161, .bool false, .int .u64 0, .int .u64 167772162, .int .u8 17, .int .u8 64, .string ⟨#[97, 98]⟩])) 26⟩, ⟨g3, .cells (av 4 (ls [.bool false, .int .u64 0, .int .u64 167772160, .int .u8 8])) 39⟩, ⟨g4, .cells (av 3 (ls [.bool false, .int .u64 0, .int .u64 0])) 24⟩] u11 := M
  refine pl_put M (want_no rfl) rfl 24 _ _ rfl 3 g4 0 (by kernel_rfl) 3 24 (ls [.bool false, .int .u64 0, .int .u64 0]) rfl 3 (ls [.bool false, .int .u64 0, .int .u64 0]) (ls [.bool false, .int .u64 0, .int .u64 0]) (by kernel_rfl) inz24 (by decide) (one_ls _ rfl) (fun j hj => by rw [if_pos (by omega), Nat.sub_zero]) ?_
  intro u12 M
  replace M : Mem ⟨w, []⟩ [⟨g1, .cells (av 9 (ls [.bool false, .int .u64 0, .int .u64 167772161, .bool false, .int .u64 0, .int .u64 167772162, .int .u8 17, .int .u8 64, .string ⟨#[97, 98]⟩])) 26⟩, ⟨g2, .cells (av 9 (ls [.bool false, .int .u64 0, .int .u64 167772161, .bool false, .int .u64 0, .int .u64 167772162, .int .u8 17, .int .u8 64, .string ⟨#[97, 98]⟩])) 26⟩, ⟨g3, .cells (av 4 (ls [.bool false, .int .u64 0, .int .u64 167772160, .int .u8 8])) 39⟩, ⟨g4, .cells (av 3 (ls [.bool false, .int .u64 0, .int .u64 0])) 24⟩] u12 := M
  refine pl_val (want_no rfl) (some 9) rfl (.int .i64 8) (fun _ => by kernel_rfl) ?_
  refine pl_nil ?_
  refine au_then ?_
  refine wp_seq ?_
  refine rg_lit ?_
  refine pl_val (want_no rfl) (some 31) rfl (.int .i64 0) (fun _ => by kernel_rfl) ?_
  refine pl_val (want_no rfl) (some 32) rfl (.bool true) (fun _ => by kernel_rfl) ?_
  refine pl_val (want_no rfl) (some 33) rfl (.bool true) (fun _ => by kernel_rfl) ?_
  refine pl_val (want_on 2 true rfl 33 rfl (by kernel_rfl)) (some 34) rfl (.string ⟨#[69, 0, 0, 22, 0, 0, 0, 0, 64, 17, 102, 213, 10, 0, 0, 1, 10, 0, 0, 2, 97, 98]⟩) (fun _ => by kernel_rfl) ?_
  refine pl_val (want_on 2 true rfl 33 rfl (by kernel_rfl)) (some 35) rfl (.int .i64 22) (fun _ => by kernel_rfl) ?_
  refine pl_val (want_on 2 true rfl 33 rfl (by kernel_rfl)) (some 36) rfl (.bool true) (fun _ => by kernel_rfl) ?_
  refine pl_val (want_no rfl) (some 37) rfl (.bool true) (fun _ => by kernel_rfl) ?_
  refine pl_val (want_no rfl) (some 38) rfl (.bool true) (fun _ => by kernel_rfl) ?_
  refine pl_val (want_on 7 true rfl 38 rfl (by kernel_rfl)) (some 39) rfl (.string ⟨#[69, 0, 0, 22, 0, 0, 0, 0, 64, 17, 102, 213, 10, 0, 0, 1, 10, 0, 0, 2, 97, 98]⟩) (fun _ => by kernel_rfl) ?_
  refine pl_val (want_on 7 true rfl 38 rfl (by kernel_rfl)) (some 40) rfl (.int .u8 102) (fun w => (run_ixS 9 Tryz.underlying9 _ _ rfl ⟨#[69, 0, 0, 22, 0, 0, 0, 0, 64, 17, 102, 213, 10, 0, 0, 1, 10, 0, 0, 2, 97, 98]⟩ (by kernel_rfl) .i64 10 (by kernel_rfl) (by decide) w).trans (by kernel_rfl)) ?_
  refine pl_val (want_on 7 true rfl 38 rfl (by kernel_rfl)) (some 41) rfl (.bool true) (fun _ => by kernel_rfl) ?_
  refine pl_val (want_no rfl) (some 42) rfl (.bool true) (fun _ => by kernel_rfl) ?_
  refine pl_val (want_no rfl) (some 43) rfl (.bool true) (fun _ => by kernel_rfl) ?_
  refine pl_val (want_on 12 true rfl 43 rfl (by kernel_rfl)) (some 44) rfl (.string ⟨#[69, 0, 0, 22, 0, 0, 0, 0, 64, 17, 102, 213, 10, 0, 0, 1, 10, 0, 0, 2, 97, 98]⟩) (fun _ => by kernel_rfl) ?_
  refine pl_val (want_on 12 true rfl 43 rfl (by kernel_rfl)) (some 45) rfl (.int .u8 213) (fun w => (run_ixS 9 Tryz.underlying9 _ _ rfl ⟨#[69, 0, 0, 22, 0, 0, 0, 0, 64, 17, 102, 213, 10, 0, 0, 1, 10, 0, 0, 2, 97, 98]⟩ (by kernel_rfl) .i64 11 (by kernel_rfl) (by decide) w).trans (by kernel_rfl)) ?_
  refine pl_val (want_on 12 true rfl 43 rfl (by kernel_rfl)) (some 46) rfl (.bool true) (fun _ => by kernel_rfl) ?_
  refine pl_val (want_no rfl) (some 47) rfl (.bool true) (fun _ => by kernel_rfl) ?_
  refine pl_val (want_no rfl) (some 48) rfl (.bool true) (fun _ => by kernel_rfl) ?_
  refine pl_val (want_on 17 true rfl 48 rfl (by kernel_rfl)) (some 49) rfl (.int .i64 0) (fun _ => by kernel_rfl) ?_
  refine pl_val (want_on 17 true rfl 48 rfl (by kernel_rfl)) (some 50) rfl (.bool true) (fun _ => by kernel_rfl) ?_
  refine pl_val (want_no rfl) (some 51) rfl (.bool true) (fun _ => by kernel_rfl) ?_
  refine pl_val (want_no rfl) (some 52) rfl (.bool true) (fun _ => by kernel_rfl) ?_
  refine pl_load M (want_on 21 true rfl 52 rfl (by kernel_rfl)) (some 53) rfl 26 _ rfl 1 g2 0 (by kernel_rfl) 9 26 (ls [.bool false, .int .u64 0, .int .u64 167772161, .bool false, .int .u64 0, .int .u64 167772162, .int .u8 17, .int .u8 64, .string ⟨#[97, 98]⟩]) rfl 9 (ls [.bool false, .int .u64 0, .int .u64 167772161, .bool false, .int .u64 0, .int .u64 167772162, .int .u8 17, .int .u8 64, .string ⟨#[97, 98]⟩]) (fun j _ => by rw [Nat.zero_add]) (by decide) _ Tryz.underlying26 rfl inz26 ?_
  refine pl_load M (want_on 21 true rfl 52 rfl (by kernel_rfl)) (some 54) rfl 26 _ rfl 0 g1 0 (by kernel_rfl) 9 26 (ls [.bool false, .int .u64 0, .int .u64 167772161, .bool false, .int .u64 0, .int .u64 167772162, .int .u8 17, .int .u8 64, .string ⟨#[97, 98]⟩]) rfl 9 (ls [.bool false, .int .u64 0, .int .u64 167772161, .bool false, .int .u64 0, .int .u64 167772162, .int .u8 17, .int .u8 64, .string ⟨#[97, 98]⟩]) (fun j _ => by rw [Nat.zero_add]) (by decide) _ Tryz.underlying26 rfl inz26 ?_
  refine pl_val (want_on 21 true rfl 52 rfl (by kernel_rfl)) (some 55) rfl (.bool true) (fun w => (eql26 false false (0 : Int) (0 : Int) (167772161 : Int) (167772161 : Int) false false (0 : Int) (0 : Int) (167772162 : Int) (167772162 : Int) (17 : Int) (17 : Int) (64 : Int) (64 : Int) (⟨#[97, 98]⟩ : ByteArray) (⟨#[97, 98]⟩ : ByteArray) _ _ rfl (by kernel_rfl) (by kernel_rfl) w).trans (by rw [decide_eq_true (⟨rfl, rfl, rfl, rfl, rfl, rfl, rfl, rfl, rfl⟩ : false = false ∧ (0 : Int) = (0 : Int) ∧ (167772161 : Int) = (167772161 : Int) ∧ false = false ∧ (0 : Int) = (0 : Int) ∧ (167772162 : Int) = (167772162 : Int) ∧ (17 : Int) = (17 : Int) ∧ (64 : Int) = (64 : Int) ∧ (⟨#[97, 98]⟩ : ByteArray) = (⟨#[97, 98]⟩ : ByteArray))])) ?_
  refine pl_val (want_no rfl) (some 56) rfl (.bool true) (fun _ => by kernel_rfl) ?_
  refine pl_val (want_no rfl) (some 57) rfl (.bool true) (fun _ => by kernel_rfl) ?_
  refine pl_val (want_on 26 true rfl 57 rfl (by kernel_rfl)) (some 58) rfl (.int .i64 0) (fun _ => by kernel_rfl) ?_
  refine pl_val (want_on 26 true rfl 57 rfl (by kernel_rfl)) (some 59) rfl (.bool true) (fun _ => by kernel_rfl) ?_
  refine pl_val (want_no rfl) (some 60) rfl (.bool true) (fun _ => by kernel_rfl) ?_
  refine pl_val (want_no rfl) (some 61) rfl (.bool true) (fun _ => by kernel_rfl) ?_
  refine pl_load M (want_on 30 true rfl 61 rfl (by kernel_rfl)) (some 62) rfl 39 _ rfl 2 g3 0 (by kernel_rfl) 4 39 (ls [.bool false, .int .u64 0, .int .u64 167772160, .int .u8 8]) rfl 4 (ls [.bool false, .int .u64 0, .int .u64 167772160, .int .u8 8]) (fun j _ => by rw [Nat.zero_add]) (by decide) _ Tryz.underlying39 rfl inz39 ?_
  refine pl_val (want_on 30 true rfl 61 rfl (by kernel_rfl)) (some 63) rfl (.pointer (some ⟨g1, 0, none⟩)) (fun _ => by kernel_rfl) ?_
  refine pl_load M (want_on 30 true rfl 61 rfl (by kernel_rfl)) (some 64) rfl 24 _ rfl 0 g1 0 (by kernel_rfl) 9 26 (ls [.bool false, .int .u64 0, .int .u64 167772161, .bool false, .int .u64 0, .int .u64 167772162, .int .u8 17, .int .u8 64, .string ⟨#[97, 98]⟩]) rfl 3 (ls [.bool false, .int .u64 0, .int .u64 167772161]) (part_ls _ 0 3 _ rfl) (by decide) _ Tryz.underlying24 rfl inz24 ?_
  refine pl_call M (want_on 30 true rfl 61 rfl (by kernel_rfl)) (some 65) rfl 28 #[.agg (av 4 (ls [.bool false, .int .u64 0, .int .u64 167772160, .int .u8 8])), .agg (av 3 (ls [.bool false, .int .u64 0, .int .u64 167772161]))] (.bool true) (fun _ => by kernel_rfl) (fun w M => call_val (c_Holds false 0 167772160 8 (by decide) (by decide) false 0 167772161 w M.laid) (by kernel_rfl)) ?_
  intro u13 M
  refine pl_val (want_no rfl) (some 66) rfl (.bool true) (fun _ => by kernel_rfl) ?_
  refine pl_val (want_no rfl) (some 67) rfl (.bool true) (fun _ => by kernel_rfl) ?_
  refine pl_val (want_on 36 true rfl 67 rfl (by kernel_rfl)) (some 68) rfl (.int .i64 8) (fun _ => by kernel_rfl) ?_
  refine pl_val (want_on 36 true rfl 67 rfl (by kernel_rfl)) (some 69) rfl (.bool true) (fun _ => by kernel_rfl) ?_
  refine pl_val (want_no rfl) (some 70) rfl (.bool true) (fun _ => by kernel_rfl) ?_
  refine pl_val (want_no rfl) (some 71) rfl (.bool true) (fun _ => by kernel_rfl) ?_
  refine pl_val (want_on 40 true rfl 71 rfl (by kernel_rfl)) (some 72) rfl (.agg (av 3 (ls [.bool true, .int .u64 0, .int .u64 1]))) (fun _ => by kernel_rfl) ?_
  refine pl_call M (want_on 40 true rfl 71 rfl (by kernel_rfl)) (some 73) rfl 22 #[.agg (av 3 (ls [.bool true, .int .u64 0, .int .u64 1]))] (.string ⟨#[58, 58, 49]⟩) (fun _ => by kernel_rfl) (fun w M => call_val (c_Text true 0 1 w M.laid) (by kernel_rfl)) ?_
  intro u14 M
  refine pl_val (want_on 40 true rfl 71 rfl (by kernel_rfl)) (some 74) rfl (.bool true) (fun _ => by kernel_rfl) ?_
  refine pl_val (want_no rfl) (some 75) rfl (.bool true) (fun _ => by kernel_rfl) ?_
  refine pl_val (want_no rfl) (some 0) rfl (.bool true) (fun _ => by kernel_rfl) ?_
  refine pl_nil ?_
  refine au_then ?_
  refine wp_ret ?_
  exact bodyPost_ret (v := .bool true) (results_tmp1 Tryz.results9 _ _ _ (by kernel_rfl)) (by kernel_rfl) ⟨rfl, below_grown M.old⟩


end Go.Proofs.YtndonmdgplojnaaGreatDoor

/- The bytes of a packet: those that the program lays into its array are the document's. -/
namespace Go.Proofs.YtndonmdgplojnaaGreatDoor
open Go.RowKit

theorem ba_ext (a b : ByteArray) (hs : a.size = b.size) (h : ∀ i, i < a.size → bt a i = bt b i) : a = b := by
  have e : sb a = sb b := by
    apply List.ext_getElem?
    intro i
    by_cases hi : i < a.size
    · have := h i hi
      rw [bt_of_sb, bt_of_sb] at this
      have l1 : i < (sb a).length := by rw [sb_length]; exact hi
      have l2 : i < (sb b).length := by rw [sb_length]; omega
      simp only [List.getD, List.getElem?_eq_getElem l1, List.getElem?_eq_getElem l2, Option.getD_some] at this
      rw [List.getElem?_eq_getElem l1, List.getElem?_eq_getElem l2, this]
    · rw [List.getElem?_eq_none (by rw [sb_length]; omega), List.getElem?_eq_none (by rw [sb_length]; omega)]
  rw [← bs_sb a, e, bs_sb]
theorem bt_app (a b : ByteArray) (i : Nat) : bt (a ++ b) i = if i < a.size then bt a i else bt b (i - a.size) := by
  unfold bt
  rw [ByteArray.data_append]
  split
  · rename_i h
    rw [Array.getElem?_append_left h]
  · rename_i h
    have h' : a.data.size ≤ i := Nat.le_of_not_lt h
    rw [Array.getElem?_append_right h']
    rfl
theorem lay_eq (F : Nat → Int) (hF : NB F) (H X : ByteArray) (k n : Nat) (hk : H.size = k) (hn : X.size = n) (h1 : ∀ i, i < k → F i = bt H i) (h2 : ∀ i, i < n → F (k + i) = bt X i) : bs ((List.range (k + n)).map F) = H ++ X := by
  have hl : (bs ((List.range (k + n)).map F)).size = k + n := by rw [bs_size]; simp
  refine ba_ext _ _ (by rw [hl, ByteArray.size_append, hk, hn]) fun i hi => ?_
  rw [hl] at hi
  rw [bt_bs _ (hF.l _), bt_app, hk]
  have e : ((List.range (k + n)).map F).getD i 0 = F i := by
    simp [List.getD, List.getElem?_map, List.getElem?_range hi]
  rw [e]
  split
  · rename_i h
    exact h1 i h
  · rename_i h
    have := h2 (i - k) (by omega)
    rw [← this]
    congr 1
    omega
theorem u8w (x : Int) : 0 ≤ cv .u8 x ∧ cv .u8 x < 256 := by
  rw [cv_u8]
  omega
theorem bt_be2 (x : Int) : bt (be2 x) 0 = cv .u8 (sr x 8) ∧ bt (be2 x) 1 = cv .u8 x := by
  have h : ∀ y ∈ [(cv .u8 (sr x 8)), (cv .u8 x)], 0 ≤ y ∧ y < 256 := by
    intro y hy
    simp only [List.mem_cons, List.mem_nil_iff, or_false] at hy
    rcases hy with rfl | rfl <;> exact u8w _
  unfold be2
  rw [bt_bs _ h, bt_bs _ h]
  exact ⟨rfl, rfl⟩
theorem bt_two (p t : Int) (hp : 0 ≤ p ∧ p < 256) (ht : 0 ≤ t ∧ t < 256) : bt (bs [p, t]) 0 = p ∧ bt (bs [p, t]) 1 = t := by
  have h : ∀ y ∈ [p, t], 0 ≤ y ∧ y < 256 := by
    intro y hy
    simp only [List.mem_cons, List.mem_nil_iff, or_false] at hy
    rcases hy with rfl | rfl
    · exact hp
    · exact ht
  rw [bt_bs _ h, bt_bs _ h]
  exact ⟨rfl, rfl⟩
/-- The head of a packet of version 6. -/
def h6 (p t : Int) (n : Nat) : ByteArray := ((⟨#[96, 0, 0, 0]⟩ : ByteArray) ++ be2 (cv .u64 (n : Int))) ++ bs [p, t]
theorem h6_size (p : Int) (t : Int) (n : Nat) : (h6 p t n).size = 8 := by
  unfold h6
  rw [ByteArray.size_append, ByteArray.size_append, be2_size, bs_size]
  rfl
theorem h6_bt (p : Int) (t : Int) (hp : 0 ≤ p ∧ p < 256) (ht : 0 ≤ t ∧ t < 256) (n : Nat) : bt (h6 p t n) 0 = 96 ∧ bt (h6 p t n) 1 = 0 ∧ bt (h6 p t n) 2 = 0 ∧ bt (h6 p t n) 3 = 0 ∧ bt (h6 p t n) 4 = bt (be2 (cv .u64 (n : Int))) 0 ∧ bt (h6 p t n) 5 = bt (be2 (cv .u64 (n : Int))) 1 ∧ bt (h6 p t n) 6 = p ∧ bt (h6 p t n) 7 = t := by
  have z : (⟨#[96, 0, 0, 0]⟩ : ByteArray).size = 4 := rfl
  have ⟨e0, e1⟩ := bt_two p t hp ht
  unfold h6
  simp only [bt_app, ByteArray.size_append, be2_size, z]
  refine ⟨rfl, rfl, rfl, rfl, rfl, rfl, ?_, ?_⟩
  · exact e0
  · exact e1
theorem f6_eq (h0 : Int) (l0 : Int) (h1 : Int) (l1 : Int) (p : Int) (t : Int) (s : ByteArray) (hp : 0 ≤ p ∧ p < 256) (ht : 0 ≤ t ∧ t < 256) : f6o h0 l0 h1 l1 p t s = dE6 h0 l0 h1 l1 p t s true true := by
  have e : dE6 h0 l0 h1 l1 p t s true true = h6 p t s.size ++ ((dB true h0 l0 ++ dB true h1 l1) ++ s) := by
    unfold dE6 h6
    simp only [ByteArray.append_assoc]
  have hx : ((dB true h0 l0 ++ dB true h1 l1) ++ s).size = 32 + s.size := by
    rw [ByteArray.size_append, ByteArray.size_append, ← aB_dB, ← aB_dB, aB_t, aB_t]
  have hN : NB (f6a h0 l0 h1 l1 p t s) := (((((NB.z.c _ _ _).u _ ⟨by decide, by decide⟩).c _ _ _).u _ ht).u _ hp)
  unfold f6o
  rw [e, show 40 + s.size = 8 + (32 + s.size) by omega]
  refine lay_eq _ hN _ _ 8 _ (h6_size p t _) hx (fun i hi => ?_) (fun i hi => ?_)
  · obtain ⟨b0, b1, b2, b3, b4, b5, b6, b7⟩ := h6_bt p t hp ht s.size
    unfold f6a
    rcases i with _ | _ | _ | _ | _ | _ | _ | _ | i
    · rw [b0]; rfl
    · rw [b1]; simp [upd, cpy]
    · rw [b2]; simp [upd, cpy]
    · rw [b3]; simp [upd, cpy]
    · rw [b4]; simp [upd, cpy]
    · rw [b5]; simp [upd, cpy]
    · rw [b6]; simp [upd]
    · rw [b7]; simp [upd]
    · omega
  · unfold f6a
    simp only [upd, cpy]
    rw [if_neg (by omega), if_neg (by omega), if_neg (by omega), if_neg (by omega), if_pos ⟨by omega, by omega⟩, aB_dB, aB_dB]
    congr 1
    omega
theorem h4_bt (p : Int) (t : Int) (hp : 0 ≤ p ∧ p < 256) (ht : 0 ≤ t ∧ t < 256) (n : Nat) : bt (e4h t p n) 0 = 69 ∧ bt (e4h t p n) 1 = 0 ∧ bt (e4h t p n) 2 = bt (be2 (cv .u64 (20 + (n : Int)))) 0 ∧ bt (e4h t p n) 3 = bt (be2 (cv .u64 (20 + (n : Int)))) 1 ∧ bt (e4h t p n) 4 = 0 ∧ bt (e4h t p n) 5 = 0 ∧ bt (e4h t p n) 6 = 0 ∧ bt (e4h t p n) 7 = 0 ∧ bt (e4h t p n) 8 = t ∧ bt (e4h t p n) 9 = p := by
  have z : (⟨#[69, 0]⟩ : ByteArray).size = 2 := rfl
  have z4 : (⟨#[0, 0, 0, 0]⟩ : ByteArray).size = 4 := rfl
  have ⟨e0, e1⟩ := bt_two t p ht hp
  unfold e4h
  simp only [bt_app, ByteArray.size_append, be2_size, z, z4]
  refine ⟨rfl, rfl, rfl, rfl, rfl, rfl, rfl, rfl, ?_, ?_⟩
  · exact e0
  · exact e1
theorem f4a_nb (h0 : Int) (l0 : Int) (h1 : Int) (l1 : Int) (p : Int) (t : Int) (s : ByteArray) (hp : 0 ≤ p ∧ p < 256) (ht : 0 ≤ t ∧ t < 256) : NB (f4a h0 l0 h1 l1 p t s) := (((((NB.z.c _ _ _).u _ ⟨by decide, by decide⟩).c _ _ _).u _ ht).u _ hp)
theorem f4a_lo (h0 : Int) (l0 : Int) (h1 : Int) (l1 : Int) (p : Int) (t : Int) (s : ByteArray) (hp : 0 ≤ p ∧ p < 256) (ht : 0 ≤ t ∧ t < 256) (i : Nat) (hi : i < 10) : f4a h0 l0 h1 l1 p t s i = bt (e4h t p s.size) i := by
  obtain ⟨b0, b1, b2, b3, b4, b5, b6, b7, b8, b9⟩ := h4_bt p t hp ht s.size
  have hc : (((20 + s.size) : Nat) : Int) = 20 + (s.size : Int) := by omega
  unfold f4a
  rw [hc]
  rcases i with _ | _ | _ | _ | _ | _ | _ | _ | _ | _ | i
  · rw [b0]; rfl
  · rw [b1]; simp [upd, cpy]
  · rw [b2]; simp [upd, cpy]
  · rw [b3]; simp [upd, cpy]
  · rw [b4]; simp [upd, cpy]
  · rw [b5]; simp [upd, cpy]
  · rw [b6]; simp [upd, cpy]
  · rw [b7]; simp [upd, cpy]
  · rw [b8]; simp [upd]
  · rw [b9]; simp [upd]
  · omega
theorem f4a_mid (h0 : Int) (l0 : Int) (h1 : Int) (l1 : Int) (p : Int) (t : Int) (s : ByteArray) (i : Nat) (hi : i < 2) : f4a h0 l0 h1 l1 p t s (10 + i) = 0 := by
  unfold f4a
  simp only [upd, cpy]
  rw [if_neg (by omega), if_neg (by omega), if_neg (by omega), if_neg (by omega), if_neg (by omega)]
theorem f4a_hi (h0 : Int) (l0 : Int) (h1 : Int) (l1 : Int) (p : Int) (t : Int) (s : ByteArray) (i : Nat) (hi : i < 8 + s.size) : f4a h0 l0 h1 l1 p t s (12 + i) = bt ((dB false h0 l0 ++ dB false h1 l1) ++ s) i := by
  unfold f4a
  simp only [upd, cpy]
  rw [if_neg (by omega), if_neg (by omega), if_neg (by omega), if_neg (by omega), if_pos ⟨by omega, by omega⟩, aB_dB, aB_dB]
  congr 1
  omega
theorem k4_size (h0 : Int) (l0 : Int) (h1 : Int) (l1 : Int) : (e4k h0 l0 h1 l1 false false).size = 8 := by
  unfold e4k
  rw [ByteArray.size_append, ← aB_dB, ← aB_dB, aB_f, aB_f]
theorem f4s_eq (h0 : Int) (l0 : Int) (h1 : Int) (l1 : Int) (p : Int) (t : Int) (s : ByteArray) (hp : 0 ≤ p ∧ p < 256) (ht : 0 ≤ t ∧ t < 256) : f4s h0 l0 h1 l1 p t s = (e4h t p s.size ++ (⟨#[0, 0]⟩ : ByteArray)) ++ e4k h0 l0 h1 l1 false false := by
  have z2 : (⟨#[0, 0]⟩ : ByteArray).size = 2 := rfl
  unfold f4s
  refine lay_eq _ (f4a_nb h0 l0 h1 l1 p t s hp ht) _ _ 12 8 (by rw [ByteArray.size_append, e4h_size, z2]) (k4_size h0 l0 h1 l1) (fun i hi => ?_) (fun i hi => ?_)
  · rw [bt_app, e4h_size]
    split
    · exact f4a_lo h0 l0 h1 l1 p t s hp ht i (by omega)
    · have := f4a_mid h0 l0 h1 l1 p t s (i - 10) (by omega)
      rw [show 10 + (i - 10) = i by omega] at this
      rw [this]
      obtain rfl | rfl : i = 10 ∨ i = 11 := by omega
      · rfl
      · rfl
  · rw [f4a_hi h0 l0 h1 l1 p t s i (by omega), bt_app]
    have := k4_size h0 l0 h1 l1
    unfold e4k at this
    rw [if_pos (by omega)]
    rfl
theorem f4_eq (h0 : Int) (l0 : Int) (h1 : Int) (l1 : Int) (p : Int) (t : Int) (s : ByteArray) (hp : 0 ≤ p ∧ p < 256) (ht : 0 ≤ t ∧ t < 256) : f4o h0 l0 h1 l1 p t s = dE4 h0 l0 h1 l1 p t s false false := by
  have hN : NB (f4b h0 l0 h1 l1 p t s) := (f4a_nb h0 l0 h1 l1 p t s hp ht).c _ _ _
  have e : dE4 h0 l0 h1 l1 p t s false false = (e4h t p s.size ++ be2 (cv .u64 (sumS (f4s h0 l0 h1 l1 p t s)))) ++ ((dB false h0 l0 ++ dB false h1 l1) ++ s) := by
    rw [f4s_eq h0 l0 h1 l1 p t s hp ht]
    unfold dE4 e4k
    simp only [ByteArray.append_assoc]
  have hx := k4_size h0 l0 h1 l1
  unfold e4k at hx
  unfold f4o
  rw [e, show 20 + s.size = 12 + (8 + s.size) by omega]
  refine lay_eq _ hN _ _ 12 _ (by rw [ByteArray.size_append, e4h_size, be2_size]) (by rw [ByteArray.size_append, hx]) (fun i hi => ?_) (fun i hi => ?_)
  · unfold f4b cpy
    rw [bt_app, e4h_size]
    split
    · rw [if_neg (by omega)]
    · rw [if_pos (by omega)]
      exact f4a_lo h0 l0 h1 l1 p t s hp ht i (by omega)
  · unfold f4b cpy
    rw [if_neg (by omega)]
    exact f4a_hi h0 l0 h1 l1 p t s i hi
/-- Both sides write the same bytes. -/
theorem enS_eq (h0 : Int) (l0 : Int) (h1 : Int) (l1 : Int) (p : Int) (t : Int) (s : ByteArray) (hp : 0 ≤ p ∧ p < 256) (ht : 0 ≤ t ∧ t < 256) (v0 v1 : Bool) : enS v0 h0 l0 v1 h1 l1 p t s = dE v0 h0 l0 v1 h1 l1 p t s := by
  unfold enS dE
  split
  · rename_i hm
    obtain ⟨rfl, _⟩ := my_ok hm
    unfold enB
    cases v1
    · rw [if_neg (by decide), if_neg (by decide)]
      exact f4_eq h0 l0 h1 l1 p t s hp ht
    · rw [if_pos rfl, if_pos rfl]
      exact f6_eq h0 l0 h1 l1 p t s hp ht
  · rfl
end Go.Proofs.YtndonmdgplojnaaGreatDoor

/- What is read of any bytes: both sides find the same wrong, and hand out the same. -/
namespace Go.Proofs.YtndonmdgplojnaaGreatDoor
open Go.RowKit

theorem tk_at (s : ByteArray) (k n : Nat) (m : Int) (hm : m = (n : Int)) (h : k + n ≤ s.size) : tkV (s.extract k s.size) 0 m = s.extract k (k + n) ∧ tkS (s.extract k s.size) 0 m = s.extract (k + n) s.size ∧ tkF (s.extract k s.size) 0 m = 0 := by
  subst hm
  have hz : (s.extract k s.size).size = s.size - k := by rw [ByteArray.size_extract]; omega
  have c : (0 : Int) = 0 ∧ 0 ≤ (n : Int) ∧ (n : Int) ≤ ((s.extract k s.size).size : Int) := by
    rw [hz]
    omega
  refine ⟨?_, ?_, ?_⟩
  · unfold tkV
    rw [if_pos c, ByteArray.extract_extract, Int.toNat_natCast]
    congr 1
    omega
  · unfold tkS
    rw [if_pos c, ByteArray.extract_extract, Int.toNat_natCast, hz]
    congr 1
    omega
  · unfold tkF
    rw [if_pos rfl, if_neg (by omega), if_neg (by omega)]
theorem pA_eq (s : ByteArray) (k : Nat) (h : k + 2 ≤ s.size) : pA s k = bdv (s.extract k (k + 2)) := by
  have b := bdv2 s k
  unfold pA
  rw [(tk_at s k 2 2 rfl h).1, bnv_bdv]
  unfold cv
  simp only [IntKind.wrap, IntKind.signed, IntKind.bits]
  simp
  omega
theorem yd_un (x : Int) (h0 : 0 ≤ x) (h1 : x < 65536) : yd x 16384 = un x 49151 := by
  obtain ⟨n, rfl⟩ := Int.eq_ofNat_of_zero_le h0
  have e1 : BitVec.ofInt 16 (n : Int) = BitVec.ofNat 16 n := rfl
  have e2 : BitVec.ofInt 64 (n : Int) = BitVec.ofNat 64 n := rfl
  have e3 : (~~~ BitVec.ofInt 16 16384 : BitVec 16) = BitVec.ofNat 16 49151 := by decide
  have e4 : BitVec.ofInt 64 49151 = BitVec.ofNat 64 49151 := by decide
  unfold yd un
  rw [e1, e2, e3, e4, BitVec.toNat_and, BitVec.toNat_and, BitVec.toNat_ofNat, BitVec.toNat_ofNat, BitVec.toNat_ofNat, BitVec.toNat_ofNat, Nat.mod_eq_of_lt (show n < 2 ^ 16 by omega), Nat.mod_eq_of_lt (show n < 2 ^ 64 by omega)]
  show IntKind.wrap .u16 ((n &&& 49151 : Nat) : Int) = IntKind.wrap .u64 ((n &&& 49151 : Nat) : Int)
  rw [IntKind.wrap_u64]
  have hle : n &&& 49151 ≤ n := Nat.and_le_left
  simp only [IntKind.wrap, IntKind.signed, IntKind.bits]
  simp
  generalize n &&& 49151 = k at hle
  omega
theorem nib (b : Int) (h0 : 0 ≤ b) (h1 : b < 256) (h : sr b 4 = 4) : (b = 69) ↔ nb8 b 15 = 5 := by
  obtain ⟨n, rfl⟩ := Int.eq_ofNat_of_zero_le h0
  unfold sr at h
  rw [Int.fdiv_eq_ediv_of_nonneg _ (by decide)] at h
  have hn : 64 ≤ n ∧ n < 80 := by omega
  have key : ∀ m : Nat, m < 16 → ((((64 + m : Nat) : Int) = 69) ↔ nb8 ((64 + m : Nat) : Int) 15 = 5) := by decide
  have := key (n - 64) (by omega)
  rw [show 64 + (n - 64) = n by omega] at this
  exact this
theorem fa4_eq (s : ByteArray) (h : sr (bt s 0) 4 = 4) : fa4 s = r4E s := by
  unfold fa4 r4E
  split
  · rfl
  · rename_i hz
    have n0 := nib (bt s 0) (bt_nn s 0).1 (bt_nn s 0).2 h
    have b := bdv2 s 6
    rw [pA_eq s 2 (by omega), pA_eq s 6 (by omega), yd_un _ b.1 b.2]
    by_cases e : bt s 0 = 69
    · rw [if_pos e, if_pos (n0.1 e), Int.zero_add]
    · rw [if_neg e, if_neg fun x => e (n0.2 x)]
theorem fa6_eq (s : ByteArray) : fa6 s = r6E s := by
  unfold fa6 r6E
  split
  · rfl
  · rename_i hz
    rw [pA_eq s 4 (by omega)]
    have e : (40 + bdv (s.extract 4 (4 + 2)) = (s.size : Int)) = (bdv (s.extract 4 6) = (s.size : Int) - 40) := by
      apply propext
      show 40 + bdv (s.extract 4 6) = (s.size : Int) ↔ _
      omega
    simp only [e]
    split
    · unfold exB
      simp only [decide_eq_true_eq]
      by_cases a0 : bt s 6 = 0
      · simp [a0]
      by_cases a1 : bt s 6 = 43
      · simp [a1]
      by_cases a2 : bt s 6 = 44
      · simp [a2]
      by_cases a3 : bt s 6 = 50
      · simp [a3]
      by_cases a4 : bt s 6 = 51
      · simp [a4]
      by_cases a5 : bt s 6 = 60
      · simp [a5]
      simp [a0, a1, a2, a3, a4, a5]
    · rfl
theorem dcE_eq (s : ByteArray) : dcE s = rcE s := by
  unfold dcE rcE fF hFa
  by_cases h1 : (1500 : Int) < (s.size : Int)
  · simp [h1]
  by_cases h2 : s = (⟨#[]⟩ : ByteArray)
  · simp only [if_neg h1, if_pos h2]
    rfl
  by_cases h4 : sr (bt s 0) 4 = 4
  · simp [h1, h2, h4, fa4_eq s h4]
  by_cases h6 : sr (bt s 0) 4 = 6
  · simp [h1, h2, h6, fa6_eq s]
  simp [h1, h2, h4, h6]
theorem rcE_size (s : ByteArray) (h : rcE s = 0) : 20 ≤ s.size ∧ (sr (bt s 0) 4 = 6 → 40 ≤ s.size) := by
  unfold rcE at h
  split at h
  · cases h
  split at h
  · cases h
  split at h
  · rename_i h4
    unfold r4E at h
    split at h
    · cases h
    · exact ⟨by omega, fun e => by rw [h4] at e; cases e⟩
  split at h
  · unfold r6E at h
    split at h
    · cases h
    · exact ⟨by omega, fun _ => by omega⟩
  · cases h
theorem q6_eq (s : ByteArray) (h : 40 ≤ s.size) : q6H0 s = bdv (s.extract 8 16) ∧ q6L0 s = bdv (s.extract 16 24) ∧ q6H1 s = bdv (s.extract 24 32) ∧ q6L1 s = bdv (s.extract 32 40) ∧ q6D s = s.extract 40 s.size := by
  obtain ⟨a1, a2, a3⟩ := tk_at s 8 8 8 rfl (by omega)
  obtain ⟨b1, b2, b3⟩ := tk_at s 16 8 8 rfl (by omega)
  obtain ⟨c1, c2, c3⟩ := tk_at s 24 8 8 rfl (by omega)
  obtain ⟨d1, d2, d3⟩ := tk_at s 32 8 8 rfl (by omega)
  obtain ⟨e1, _, _⟩ := tk_at s 40 (s.size - 40) ((s.extract 40 s.size).size : Int) (by rw [ByteArray.size_extract]; omega) (by omega)
  rw [show 40 + (s.size - 40) = s.size by omega] at e1
  unfold q6H0 q6L0 q6H1 q6L1 q6D
  simp only [a1, a2, a3, b1, b2, b3, c1, c2, c3, d1, d2, d3, bnv_bdv]
  exact ⟨trivial, trivial, trivial, trivial, e1⟩
theorem q4_eq (s : ByteArray) (h : 20 ≤ s.size) : q4L0 s = bdv (s.extract 12 16) ∧ q4L1 s = bdv (s.extract 16 20) ∧ q4D s = s.extract 20 s.size := by
  obtain ⟨a1, a2, a3⟩ := tk_at s 12 4 4 rfl (by omega)
  obtain ⟨b1, b2, b3⟩ := tk_at s 16 4 4 rfl (by omega)
  obtain ⟨e1, _, _⟩ := tk_at s 20 (s.size - 20) ((s.extract 20 s.size).size : Int) (by rw [ByteArray.size_extract]; omega) (by omega)
  rw [show 20 + (s.size - 20) = s.size by omega] at e1
  have wr : ∀ x : Int, 0 ≤ x ∧ x < 4294967296 → cv .u64 (cv .u32 x) = x := by
    intro x hx
    unfold cv
    simp only [IntKind.wrap, IntKind.signed, IntKind.bits]
    simp
    omega
  have y1 := bdv_lt (s.extract 12 16) 4 (by decide) (by rw [ByteArray.size_extract]; omega)
  have y2 := bdv_lt (s.extract 16 20) 4 (by decide) (by rw [ByteArray.size_extract]; omega)
  unfold q4L0 q4L1 q4D
  simp only [a1, a2, a3, b1, b2, b3, bnv_bdv]
  exact ⟨wr _ y1, wr _ y2, e1⟩
theorem zI_c {e x y : Int} (h : e = 0 → x = y) : zI e x = zI e y := by
  unfold zI
  split
  · exact h (by assumption)
  · rfl
theorem zS_c {e : Int} {x y : ByteArray} (h : e = 0 → x = y) : zS e x = zS e y := by
  unfold zS
  split
  · exact h (by assumption)
  · rfl
/-- Both sides read the same. -/
theorem dec_eq (s : ByteArray) : (.tuple #[.agg (av 9 (ls [.bool (zB (dcE s) (decide ((sr (bt s 0) 4) = 6))), .int .u64 (zI (dcE s) (if (sr (bt s 0) 4) = 6 then (q6H0 s) else 0)), .int .u64 (zI (dcE s) (if (sr (bt s 0) 4) = 6 then (q6L0 s) else (q4L0 s))), .bool (zB (dcE s) (decide ((sr (bt s 0) 4) = 6))), .int .u64 (zI (dcE s) (if (sr (bt s 0) 4) = 6 then (q6H1 s) else 0)), .int .u64 (zI (dcE s) (if (sr (bt s 0) 4) = 6 then (q6L1 s) else (q4L1 s))), .int .u8 (zI (dcE s) (if (sr (bt s 0) 4) = 6 then (bt s 6) else (bt s 9))), .int .u8 (zI (dcE s) (if (sr (bt s 0) 4) = 6 then (bt s 7) else (bt s 8))), .string (zS (dcE s) (if (sr (bt s 0) 4) = 6 then (q6D s) else (q4D s)))])), .int .i64 (dcE s)] : Value) = .tuple #[.agg (av 9 (ls [.bool (zB (rcE s) (decide ((sr (bt s 0) 4) = 6))), .int .u64 (zI (rcE s) (if (sr (bt s 0) 4) = 6 then (bdv (s.extract 8 16)) else 0)), .int .u64 (zI (rcE s) (if (sr (bt s 0) 4) = 6 then (bdv (s.extract 16 24)) else (bdv (s.extract 12 16)))), .bool (zB (rcE s) (decide ((sr (bt s 0) 4) = 6))), .int .u64 (zI (rcE s) (if (sr (bt s 0) 4) = 6 then (bdv (s.extract 24 32)) else 0)), .int .u64 (zI (rcE s) (if (sr (bt s 0) 4) = 6 then (bdv (s.extract 32 40)) else (bdv (s.extract 16 20)))), .int .u8 (zI (rcE s) (if (sr (bt s 0) 4) = 6 then (bt s 6) else (bt s 9))), .int .u8 (zI (rcE s) (if (sr (bt s 0) 4) = 6 then (bt s 7) else (bt s 8))), .string (zS (rcE s) (if (sr (bt s 0) 4) = 6 then (s.extract 40 s.size) else (s.extract 20 s.size)))])), .int .i64 (rcE s)] := by
  have hz := rcE_size s
  rw [dcE_eq]
  have i6 : ∀ {α : Type} {x y z u : α}, (sr (bt s 0) 4 = 6 → x = y) → (¬ sr (bt s 0) 4 = 6 → z = u) → (if sr (bt s 0) 4 = 6 then x else z) = (if sr (bt s 0) 4 = 6 then y else u) := by
    intro α x y z u h1 h2
    split
    · exact h1 (by assumption)
    · exact h2 (by assumption)
  rw [zI_c fun h => i6 (fun h6 => (q6_eq s ((hz h).2 h6)).1) (fun _ => rfl), zI_c fun h => i6 (fun h6 => (q6_eq s ((hz h).2 h6)).2.1) (fun _ => (q4_eq s (hz h).1).1), zI_c fun h => i6 (fun h6 => (q6_eq s ((hz h).2 h6)).2.2.1) (fun _ => rfl), zI_c fun h => i6 (fun h6 => (q6_eq s ((hz h).2 h6)).2.2.2.1) (fun _ => (q4_eq s (hz h).1).2.1), zS_c fun h => i6 (fun h6 => (q6_eq s ((hz h).2 h6)).2.2.2.2) (fun _ => (q4_eq s (hz h).1).2.2)]
end Go.Proofs.YtndonmdgplojnaaGreatDoor

/- Bytes with their sum behind them: the walk of IpSums. -/
namespace Go.Proofs.YtndonmdgplojnaaGreatDoor
open Go.RowKit

theorem bt_left (a b : ByteArray) (i : Nat) (h : i < a.size) : bt (a ++ b) i = bt a i := by
  unfold bt
  rw [ByteArray.data_append, Array.getElem?_append_left h]
theorem bt_right (a b : ByteArray) (i : Nat) : bt (a ++ b) (a.size + i) = bt b i := by
  unfold bt
  rw [ByteArray.data_append, Array.getElem?_append_right (show a.data.size ≤ a.size + i from Nat.le_add_right _ _)]
  show ((b.data[a.size + i - a.size]?.getD 0).toNat : Int) = _
  rw [Nat.add_sub_cancel_left]
theorem tt_left (a b : ByteArray) : ∀ j, j ≤ a.size → tt (a ++ b) j = tt a j
  | 0, _ => rfl
  | j + 1, h => by
    unfold tt
    rw [tt_left a b j (by omega), bt_left a b j (by omega)]
theorem tt_right (a b : ByteArray) (ha : a.size % 2 = 0) : ∀ j, tt (a ++ b) (a.size + j) = tot a + tt b j
  | 0 => by
    rw [Nat.add_zero, tt_left a b _ (Nat.le_refl _)]
    show tot a = tot a + 0
    omega
  | j + 1 => by
    show tt (a ++ b) (a.size + j) + (if (a.size + j) % 2 = 0 then 256 * bt (a ++ b) (a.size + j) else bt (a ++ b) (a.size + j)) = tot a + (tt b j + (if j % 2 = 0 then 256 * bt b j else bt b j))
    rw [tt_right a b ha j, bt_right]
    have e : (a.size + j) % 2 = j % 2 := by omega
    rw [e]
    omega
theorem tot_app (a b : ByteArray) (ha : a.size % 2 = 0) : tot (a ++ b) = tot a + tot b := by
  have h := tt_right a b ha b.size
  unfold tot at *
  rw [ByteArray.size_append]
  exact h
theorem tot_nn (a : ByteArray) : 0 ≤ tot a := (tt_nn a _).1
/-- The two bytes of a sum. -/
def tl2 (n : Int) : ByteArray := bs [cv .u8 (sr n 8), cv .u8 n]
theorem tl2_size (n : Int) : (tl2 n).size = 2 := by
  unfold tl2
  rw [bs_size]
  rfl
theorem tl2_tot (n : Int) (h0 : 0 ≤ n) (h1 : n ≤ 65535) : tot (tl2 n) = n := by
  unfold tot
  rw [tl2_size]
  have hb : ∀ x ∈ [cv .u8 (sr n 8), cv .u8 n], 0 ≤ x ∧ x < 256 := by
    intro x hx
    simp only [List.mem_cons, List.mem_nil_iff, or_false] at hx
    rcases hx with rfl | rfl <;> exact cv8_nn _
  have e0 : bt (tl2 n) 0 = n / 256 % 256 := by
    unfold tl2
    rw [bt_bs _ hb]
    simp only [List.getD_cons_zero, cv_u8, sr_8]
  have e1 : bt (tl2 n) 1 = n % 256 := by
    unfold tl2
    rw [bt_bs _ hb]
    simp only [List.getD_cons_succ, List.getD_cons_zero, cv_u8]
  show (0 + (if 0 % 2 = 0 then 256 * bt (tl2 n) 0 else bt (tl2 n) 0)) + (if 1 % 2 = 0 then 256 * bt (tl2 n) 1 else bt (tl2 n) 1) = n
  rw [if_pos rfl, if_neg (by decide), e0, e1]
  omega
theorem Fs_top (t : Int) (h : 0 ≤ t) : Fs (t + (65535 - Fs t)) = 65535 := by
  unfold Fs
  by_cases h0 : t = 0
  · subst h0
    decide
  · rw [if_neg h0, if_neg (by omega)]
    omega
theorem sumS_nn (s : ByteArray) : 0 ≤ sumS s ∧ sumS s ≤ 65535 := by
  have := Fs_nn (tot s)
  unfold sumS
  omega
end Go.Proofs.YtndonmdgplojnaaGreatDoor

/- What was written is read: the bytes of a packet, decoded. -/
namespace Go.Proofs.YtndonmdgplojnaaGreatDoor
open Go.RowKit

theorem bt_ext (s : ByteArray) (i j k : Nat) (h : i + k < j) (hj : j ≤ s.size) : bt (s.extract i j) k = bt s (i + k) := by
  unfold bt
  rw [ByteArray.data_extract, Array.getElem?_extract]
  have hs : s.data.size = s.size := rfl
  rw [if_pos (by omega)]
theorem ext_mid (t a b c : ByteArray) (i j : Nat) (ht : t = (a ++ b) ++ c) (hi : i = a.size) (hj : j = a.size + b.size) : t.extract i j = b := by
  have hz : t.size = a.size + b.size + c.size := by rw [ht, ByteArray.size_append, ByteArray.size_append]
  have he : (t.extract i j).size = b.size := by
    rw [ByteArray.size_extract]
    omega
  refine ba_ext _ _ he fun k hk => ?_
  rw [he] at hk
  rw [bt_ext t i j k (by omega) (by omega), ht, bt_app, if_pos (by rw [ByteArray.size_append]; omega), bt_app, if_neg (by omega)]
  congr 1
  omega
theorem app_nil (s : ByteArray) : s ++ (⟨#[]⟩ : ByteArray) = s := by
  apply ByteArray.ext
  rw [ByteArray.data_append]
  exact Array.append_empty
theorem nil_app (s : ByteArray) : (⟨#[]⟩ : ByteArray) ++ s = s := by
  apply ByteArray.ext
  rw [ByteArray.data_append]
  exact Array.empty_append
theorem bdv_be8 (x : Int) (h0 : 0 ≤ x) (h1 : x < 18446744073709551616) : bdv (be8 x) = x := by rw [← bnv_bdv, bnv_be8 x h0 h1]
theorem bdv_be4 (x : Int) (h0 : 0 ≤ x) (h1 : x < 4294967296) : bdv (be4 x) = x := by rw [← bnv_bdv, bnv_be4 x h0 h1]
theorem bdv_be2 (x : Int) (h0 : 0 ≤ x) (h1 : x < 65536) : bdv (be2 x) = x := by rw [← bnv_bdv, bnv_be2 x h0 h1]
theorem dB_t (h l : Int) : dB true h l = be8 h ++ be8 l := if_pos rfl
theorem dB_f (h l : Int) : dB false h l = be4 l := if_neg (by decide)
theorem dE6_h (h0 : Int) (l0 : Int) (h1 : Int) (l1 : Int) (p : Int) (t : Int) (s : ByteArray) : dE6 h0 l0 h1 l1 p t s true true = h6 p t s.size ++ (be8 h0 ++ (be8 l0 ++ (be8 h1 ++ (be8 l1 ++ s)))) := by
  unfold dE6 h6
  simp only [dB_t, ByteArray.append_assoc]
theorem dE6_size (h0 : Int) (l0 : Int) (h1 : Int) (l1 : Int) (p : Int) (t : Int) (s : ByteArray) : (dE6 h0 l0 h1 l1 p t s true true).size = 40 + s.size := by
  rw [dE6_h]
  simp only [ByteArray.size_append, h6_size, be8_size]
  omega
theorem six_parts (h0 : Int) (l0 : Int) (h1 : Int) (l1 : Int) (p : Int) (t : Int) (s : ByteArray) : (dE6 h0 l0 h1 l1 p t s true true).extract 4 6 = be2 (cv .u64 (s.size : Int)) ∧ (dE6 h0 l0 h1 l1 p t s true true).extract 8 16 = be8 h0 ∧ (dE6 h0 l0 h1 l1 p t s true true).extract 16 24 = be8 l0 ∧ (dE6 h0 l0 h1 l1 p t s true true).extract 24 32 = be8 h1 ∧ (dE6 h0 l0 h1 l1 p t s true true).extract 32 40 = be8 l1 ∧ (dE6 h0 l0 h1 l1 p t s true true).extract 40 (dE6 h0 l0 h1 l1 p t s true true).size = s := by
  have z : (⟨#[96, 0, 0, 0]⟩ : ByteArray).size = 4 := rfl
  have z0 : (⟨#[]⟩ : ByteArray).size = 0 := rfl
  refine ⟨?_, ?_, ?_, ?_, ?_, ?_⟩
  · exact ext_mid _ (⟨#[96, 0, 0, 0]⟩ : ByteArray) _ (bs [p, t] ++ (be8 h0 ++ (be8 l0 ++ (be8 h1 ++ (be8 l1 ++ s))))) 4 6 (by unfold dE6; simp only [dB_t, ByteArray.append_assoc]) (by rw [z]) (by rw [z, be2_size])
  · exact ext_mid _ (h6 p t s.size) _ (be8 l0 ++ (be8 h1 ++ (be8 l1 ++ s))) 8 16 (by rw [dE6_h]; simp only [ByteArray.append_assoc]) (by rw [h6_size]) (by rw [h6_size, be8_size])
  · exact ext_mid _ (h6 p t s.size ++ be8 h0) _ (be8 h1 ++ (be8 l1 ++ s)) 16 24 (by rw [dE6_h]; simp only [ByteArray.append_assoc]) (by rw [ByteArray.size_append, h6_size, be8_size]) (by rw [ByteArray.size_append, h6_size, be8_size, be8_size])
  · exact ext_mid _ (h6 p t s.size ++ (be8 h0 ++ be8 l0)) _ (be8 l1 ++ s) 24 32 (by rw [dE6_h]; simp only [ByteArray.append_assoc]) (by simp only [ByteArray.size_append, h6_size, be8_size]) (by simp only [ByteArray.size_append, h6_size, be8_size])
  · exact ext_mid _ (h6 p t s.size ++ (be8 h0 ++ (be8 l0 ++ be8 h1))) _ s 32 40 (by rw [dE6_h]; simp only [ByteArray.append_assoc]) (by simp only [ByteArray.size_append, h6_size, be8_size]) (by simp only [ByteArray.size_append, h6_size, be8_size])
  · refine ext_mid _ (h6 p t s.size ++ (be8 h0 ++ (be8 l0 ++ (be8 h1 ++ be8 l1)))) _ (⟨#[]⟩ : ByteArray) 40 _ (by rw [dE6_h]; simp only [ByteArray.append_assoc, app_nil]) (by simp only [ByteArray.size_append, h6_size, be8_size]) ?_
    rw [dE6_size]
    simp only [ByteArray.size_append, h6_size, be8_size]
theorem six_bt (h0 : Int) (l0 : Int) (h1 : Int) (l1 : Int) (p : Int) (t : Int) (s : ByteArray) (hp : 0 ≤ p ∧ p < 256) (ht : 0 ≤ t ∧ t < 256) : bt (dE6 h0 l0 h1 l1 p t s true true) 0 = 96 ∧ bt (dE6 h0 l0 h1 l1 p t s true true) 6 = p ∧ bt (dE6 h0 l0 h1 l1 p t s true true) 7 = t := by
  obtain ⟨b0, _, _, _, _, _, b6, b7⟩ := h6_bt p t hp ht s.size
  rw [dE6_h]
  refine ⟨?_, ?_, ?_⟩
  · rw [bt_app, h6_size, if_pos (by omega), b0]
  · rw [bt_app, h6_size, if_pos (by omega), b6]
  · rw [bt_app, h6_size, if_pos (by omega), b7]
theorem ne_of_size (a : ByteArray) (h : 0 < a.size) : ¬ a = (⟨#[]⟩ : ByteArray) := by
  intro e
  rw [e] at h
  have z0 : (⟨#[]⟩ : ByteArray).size = 0 := rfl
  omega
theorem six_err (h0 : Int) (l0 : Int) (h1 : Int) (l1 : Int) (p : Int) (t : Int) (s : ByteArray) (hp : 0 ≤ p ∧ p < 256) (ht : 0 ≤ t ∧ t < 256) (hs : 40 + s.size ≤ 1500) : rcE (dE6 h0 l0 h1 l1 p t s true true) = if exB p = true then 133 else 0 := by
  obtain ⟨e4, _⟩ := six_parts h0 l0 h1 l1 p t s
  obtain ⟨b0, b6, _⟩ := six_bt h0 l0 h1 l1 p t s hp ht
  have z := dE6_size h0 l0 h1 l1 p t s
  have n6 : sr (96 : Int) 4 = 6 := rfl
  have hd := fa6_eq (dE6 h0 l0 h1 l1 p t s true true)
  unfold rcE
  rw [if_neg (by omega), if_neg (ne_of_size _ (by omega)), b0, n6, if_neg (by decide), if_pos rfl, ← hd]
  unfold fa6
  rw [if_neg (by omega), pA_eq _ 4 (by omega), show (4 + 2 : Nat) = 6 from rfl, e4, bdv_be2 _ (by rw [cv_u64]; omega) (by rw [cv_u64]; omega), b6, if_pos (by rw [cv_u64]; omega)]
-- version 4
theorem dE4_size (h0 : Int) (l0 : Int) (h1 : Int) (l1 : Int) (p : Int) (t : Int) (s : ByteArray) : (dE4 h0 l0 h1 l1 p t s false false).size = 20 + s.size := by
  unfold dE4
  rw [ByteArray.size_append, ByteArray.size_append, ByteArray.size_append, e4h_size, be2_size, k4_size]
/-- The sum, laid among the others. -/
theorem sums_mid (a b : ByteArray) (ha : a.size % 2 = 0) : sumS ((a ++ be2 (cv .u64 (sumS ((a ++ (⟨#[0, 0]⟩ : ByteArray)) ++ b)))) ++ b) = 0 := by
  have z2 : (⟨#[0, 0]⟩ : ByteArray).size = 2 := rfl
  have z3 : tot (⟨#[0, 0]⟩ : ByteArray) = 0 := rfl
  have hn := sumS_nn ((a ++ (⟨#[0, 0]⟩ : ByteArray)) ++ b)
  have ht : tot ((a ++ (⟨#[0, 0]⟩ : ByteArray)) ++ b) = tot a + tot b := by
    rw [tot_app _ _ (by rw [ByteArray.size_append, z2]; omega), tot_app _ _ ha, z3]
    omega
  rw [be2_u64]
  show 65535 - Fs (tot ((a ++ tl2 (sumS ((a ++ (⟨#[0, 0]⟩ : ByteArray)) ++ b))) ++ b)) = 0
  rw [tot_app _ _ (by rw [ByteArray.size_append, tl2_size]; omega), tot_app _ _ ha, tl2_tot _ hn.1 hn.2]
  have e := Fs_top (tot a + tot b) (by have := tot_nn a; have := tot_nn b; omega)
  have hu : sumS ((a ++ (⟨#[0, 0]⟩ : ByteArray)) ++ b) = 65535 - Fs (tot a + tot b) := by
    unfold sumS
    rw [ht]
  rw [hu]
  rw [show tot a + (65535 - Fs (tot a + tot b)) + tot b = tot a + tot b + (65535 - Fs (tot a + tot b)) by omega, e]
  rfl
theorem four_parts (h0 : Int) (l0 : Int) (h1 : Int) (l1 : Int) (p : Int) (t : Int) (s : ByteArray) : (dE4 h0 l0 h1 l1 p t s false false).extract 2 4 = be2 (cv .u64 (20 + (s.size : Int))) ∧ (dE4 h0 l0 h1 l1 p t s false false).extract 6 8 = ⟨#[0, 0]⟩ ∧ (dE4 h0 l0 h1 l1 p t s false false).extract 12 16 = be4 l0 ∧ (dE4 h0 l0 h1 l1 p t s false false).extract 16 20 = be4 l1 ∧ (dE4 h0 l0 h1 l1 p t s false false).extract 20 (dE4 h0 l0 h1 l1 p t s false false).size = s ∧ sumS ((dE4 h0 l0 h1 l1 p t s false false).extract 0 20) = 0 := by
  have z2 : (⟨#[69, 0]⟩ : ByteArray).size = 2 := rfl
  have zz : (⟨#[0, 0]⟩ : ByteArray).size = 2 := rfl
  have z0 : (⟨#[]⟩ : ByteArray).size = 0 := rfl
  have z4 : (⟨#[0, 0, 0, 0]⟩ : ByteArray) = (⟨#[0, 0]⟩ : ByteArray) ++ (⟨#[0, 0]⟩ : ByteArray) := rfl
  have hk : e4k h0 l0 h1 l1 false false = be4 l0 ++ be4 l1 := by unfold e4k; rw [dB_f, dB_f]
  generalize hc : be2 (cv .u64 (sumS ((e4h t p s.size ++ (⟨#[0, 0]⟩ : ByteArray)) ++ e4k h0 l0 h1 l1 false false))) = ck
  have hcz : ck.size = 2 := by rw [← hc, be2_size]
  have hd : dE4 h0 l0 h1 l1 p t s false false = e4h t p s.size ++ (ck ++ (be4 l0 ++ (be4 l1 ++ s))) := by
    unfold dE4
    rw [hc, hk]
    simp only [ByteArray.append_assoc]
  refine ⟨?_, ?_, ?_, ?_, ?_, ?_⟩
  · exact ext_mid _ (⟨#[69, 0]⟩ : ByteArray) _ ((⟨#[0, 0, 0, 0]⟩ : ByteArray) ++ (bs [t, p] ++ (ck ++ (be4 l0 ++ (be4 l1 ++ s))))) 2 4 (by rw [hd]; unfold e4h; simp only [ByteArray.append_assoc]) (by rw [z2]) (by rw [z2, be2_size])
  · exact ext_mid _ ((⟨#[69, 0]⟩ : ByteArray) ++ (be2 (cv .u64 (20 + (s.size : Int))) ++ (⟨#[0, 0]⟩ : ByteArray))) _ (bs [t, p] ++ (ck ++ (be4 l0 ++ (be4 l1 ++ s)))) 6 8 (by rw [hd]; unfold e4h; rw [z4]; simp only [ByteArray.append_assoc]) (by simp only [ByteArray.size_append, z2, zz, be2_size]) (by simp only [ByteArray.size_append, z2, zz, be2_size])
  · exact ext_mid _ (e4h t p s.size ++ ck) _ (be4 l1 ++ s) 12 16 (by rw [hd]; simp only [ByteArray.append_assoc]) (by rw [ByteArray.size_append, e4h_size, hcz]) (by rw [ByteArray.size_append, e4h_size, hcz, be4_size])
  · exact ext_mid _ (e4h t p s.size ++ (ck ++ be4 l0)) _ s 16 20 (by rw [hd]; simp only [ByteArray.append_assoc]) (by rw [ByteArray.size_append, ByteArray.size_append, e4h_size, hcz, be4_size]) (by rw [ByteArray.size_append, ByteArray.size_append, e4h_size, hcz, be4_size, be4_size])
  · refine ext_mid _ (e4h t p s.size ++ (ck ++ (be4 l0 ++ be4 l1))) _ (⟨#[]⟩ : ByteArray) 20 _ (by rw [hd]; simp only [ByteArray.append_assoc, app_nil]) (by simp only [ByteArray.size_append, e4h_size, hcz, be4_size]) ?_
    rw [dE4_size]
    simp only [ByteArray.size_append, e4h_size, hcz, be4_size]
  · have e : (dE4 h0 l0 h1 l1 p t s false false).extract 0 20 = (e4h t p s.size ++ ck) ++ e4k h0 l0 h1 l1 false false := by
      refine ext_mid _ (⟨#[]⟩ : ByteArray) _ s 0 20 (by rw [hd, hk, nil_app]; simp only [ByteArray.append_assoc]) (by rw [z0]) ?_
      rw [ByteArray.size_append, ByteArray.size_append, e4h_size, hcz, k4_size, z0]
    rw [e, ← hc]
    exact sums_mid _ _ (by rw [e4h_size])
theorem four_bt (h0 : Int) (l0 : Int) (h1 : Int) (l1 : Int) (p : Int) (t : Int) (s : ByteArray) (hp : 0 ≤ p ∧ p < 256) (ht : 0 ≤ t ∧ t < 256) : bt (dE4 h0 l0 h1 l1 p t s false false) 0 = 69 ∧ bt (dE4 h0 l0 h1 l1 p t s false false) 8 = t ∧ bt (dE4 h0 l0 h1 l1 p t s false false) 9 = p := by
  obtain ⟨b0, _, _, _, _, _, _, _, b8, b9⟩ := h4_bt p t hp ht s.size
  have hd : ∃ X, dE4 h0 l0 h1 l1 p t s false false = e4h t p s.size ++ X := by
    unfold dE4
    simp only [ByteArray.append_assoc]
    exact ⟨_, rfl⟩
  obtain ⟨X, hd⟩ := hd
  rw [hd]
  refine ⟨?_, ?_, ?_⟩
  · rw [bt_app, e4h_size, if_pos (by omega), b0]
  · rw [bt_app, e4h_size, if_pos (by omega), b8]
  · rw [bt_app, e4h_size, if_pos (by omega), b9]
theorem four_err (h0 : Int) (l0 : Int) (h1 : Int) (l1 : Int) (p : Int) (t : Int) (s : ByteArray) (hp : 0 ≤ p ∧ p < 256) (ht : 0 ≤ t ∧ t < 256) (hs : 20 + s.size ≤ 1500) : rcE (dE4 h0 l0 h1 l1 p t s false false) = 0 := by
  obtain ⟨e2, e6, _, _, _, eS⟩ := four_parts h0 l0 h1 l1 p t s
  obtain ⟨b0, _, _⟩ := four_bt h0 l0 h1 l1 p t s hp ht
  have z := dE4_size h0 l0 h1 l1 p t s
  have n4 : sr (69 : Int) 4 = 4 := rfl
  have n5 : nb8 69 15 = 5 := by decide
  have nz : un (bdv ⟨#[0, 0]⟩) 49151 = 0 := by decide
  unfold rcE
  rw [if_neg (by omega), if_neg (ne_of_size _ (by omega)), b0, n4, if_pos rfl]
  unfold r4E
  rw [if_neg (by omega), b0, n5, if_pos rfl, e2, bdv_be2 _ (by rw [cv_u64]; omega) (by rw [cv_u64]; omega), if_pos (by rw [cv_u64]; omega), eS, if_pos rfl, e6, nz, if_pos rfl]
end Go.Proofs.YtndonmdgplojnaaGreatDoor

/- What is read is written as it was: a packet that was decoded, encoded again. -/
namespace Go.Proofs.YtndonmdgplojnaaGreatDoor
open Go.RowKit

theorem b8 (l : List Int) (x : ByteArray) (hs : x.size = l.length) (h : ∀ i, i < l.length → l.getD i 0 = bt x i) : bs l = x := by
  have hl : ∀ y ∈ l, 0 ≤ y ∧ y < 256 := by
    intro y hy
    obtain ⟨i, hi, rfl⟩ := List.mem_iff_getElem.1 hy
    have := h i hi
    rw [List.getD_eq_getElem?_getD, List.getElem?_eq_getElem hi, Option.getD_some] at this
    rw [this]
    exact bt_nn x i
  refine ba_ext _ _ (by rw [bs_size, hs]) fun i hi => ?_
  rw [bs_size] at hi
  rw [bt_bs _ hl, h i hi]
theorem bdv_hv (s : ByteArray) (k : Nat) (hs : s.size = k) (h : k ≤ 8) : bdv s = hv s k := by rw [← bnv_bdv, bnv_hv s k hs h]
theorem be2_bdv (x : ByteArray) (h : x.size = 2) : be2 (bdv x) = x := by
  have e : bdv x = (0 * 256 + bt x 0) * 256 + bt x 1 := bdv_hv x 2 h (by decide)
  have := bt_nn x 0
  have := bt_nn x 1
  unfold be2
  refine b8 _ _ h fun i hi => ?_
  rcases i with _ | _ | i
  · show cv .u8 (sr (bdv x) 8) = _
    rw [sr_8, cv_u8, e]
    omega
  · show cv .u8 (bdv x) = _
    rw [cv_u8, e]
    show _ = bt x 1
    omega
  · simp at hi
    omega
theorem be4_bdv (x : ByteArray) (h : x.size = 4) : be4 (bdv x) = x := by
  have e : bdv x = (((0 * 256 + bt x 0) * 256 + bt x 1) * 256 + bt x 2) * 256 + bt x 3 := bdv_hv x 4 h (by decide)
  have := bt_nn x 0
  have := bt_nn x 1
  have := bt_nn x 2
  have := bt_nn x 3
  unfold be4
  refine b8 _ _ h fun i hi => ?_
  rcases i with _ | _ | _ | _ | i
  · show cv .u8 (sr (sr (sr (bdv x) 8) 8) 8) = bt x 0
    rw [sr_8, sr_8, sr_8, cv_u8, e]
    omega
  · show cv .u8 (sr (sr (bdv x) 8) 8) = bt x 1
    rw [sr_8, sr_8, cv_u8, e]
    omega
  · show cv .u8 (sr (bdv x) 8) = bt x 2
    rw [sr_8, cv_u8, e]
    omega
  · show cv .u8 (bdv x) = bt x 3
    rw [cv_u8, e]
    omega
  · simp at hi
    omega
theorem be8_bdv (x : ByteArray) (h : x.size = 8) : be8 (bdv x) = x := by
  have e : bdv x = (((((((0 * 256 + bt x 0) * 256 + bt x 1) * 256 + bt x 2) * 256 + bt x 3) * 256 + bt x 4) * 256 + bt x 5) * 256 + bt x 6) * 256 + bt x 7 := bdv_hv x 8 h (by decide)
  have := bt_nn x 0
  have := bt_nn x 1
  have := bt_nn x 2
  have := bt_nn x 3
  have := bt_nn x 4
  have := bt_nn x 5
  have := bt_nn x 6
  have := bt_nn x 7
  have s1 : sr (bdv x) 8 = ((((((0 * 256 + bt x 0) * 256 + bt x 1) * 256 + bt x 2) * 256 + bt x 3) * 256 + bt x 4) * 256 + bt x 5) * 256 + bt x 6 := by rw [sr_8, e]; omega
  have s2 : sr (sr (bdv x) 8) 8 = (((((0 * 256 + bt x 0) * 256 + bt x 1) * 256 + bt x 2) * 256 + bt x 3) * 256 + bt x 4) * 256 + bt x 5 := by rw [s1, sr_8]; omega
  have s3 : sr (sr (sr (bdv x) 8) 8) 8 = ((((0 * 256 + bt x 0) * 256 + bt x 1) * 256 + bt x 2) * 256 + bt x 3) * 256 + bt x 4 := by rw [s2, sr_8]; omega
  have s4 : sr (sr (sr (sr (bdv x) 8) 8) 8) 8 = (((0 * 256 + bt x 0) * 256 + bt x 1) * 256 + bt x 2) * 256 + bt x 3 := by rw [s3, sr_8]; omega
  have s5 : sr (sr (sr (sr (sr (bdv x) 8) 8) 8) 8) 8 = ((0 * 256 + bt x 0) * 256 + bt x 1) * 256 + bt x 2 := by rw [s4, sr_8]; omega
  have s6 : sr (sr (sr (sr (sr (sr (bdv x) 8) 8) 8) 8) 8) 8 = (0 * 256 + bt x 0) * 256 + bt x 1 := by rw [s5, sr_8]; omega
  have s7 : sr (sr (sr (sr (sr (sr (sr (bdv x) 8) 8) 8) 8) 8) 8) 8 = bt x 0 := by rw [s6, sr_8]; omega
  unfold be8
  rw [s7, s6, s5, s4, s3, s2, s1, e]
  refine b8 _ _ h fun i hi => ?_
  rcases i with _ | _ | _ | _ | _ | _ | _ | _ | i
  · show cv .u8 _ = bt x 0
    rw [cv_u8]; omega
  · show cv .u8 _ = bt x 1
    rw [cv_u8]; omega
  · show cv .u8 _ = bt x 2
    rw [cv_u8]; omega
  · show cv .u8 _ = bt x 3
    rw [cv_u8]; omega
  · show cv .u8 _ = bt x 4
    rw [cv_u8]; omega
  · show cv .u8 _ = bt x 5
    rw [cv_u8]; omega
  · show cv .u8 _ = bt x 6
    rw [cv_u8]; omega
  · show cv .u8 _ = bt x 7
    rw [cv_u8]; omega
  · simp at hi
    omega
theorem ext_join (s : ByteArray) (i j k : Nat) (h1 : i ≤ j) (h2 : j ≤ k) (h3 : k ≤ s.size) : s.extract i j ++ s.extract j k = s.extract i k := by
  have z1 : (s.extract i j).size = j - i := by rw [ByteArray.size_extract]; omega
  have z2 : (s.extract j k).size = k - j := by rw [ByteArray.size_extract]; omega
  have z3 : (s.extract i k).size = k - i := by rw [ByteArray.size_extract]; omega
  refine ba_ext _ _ (by rw [ByteArray.size_append]; omega) fun n hn => ?_
  rw [ByteArray.size_append] at hn
  rw [bt_app, z1, bt_ext s i k n (by omega) h3]
  split
  · exact bt_ext s i j n (by omega) (by omega)
  · rw [bt_ext s j k _ (by omega) h3]
    congr 1
    omega
theorem ext_all (s : ByteArray) : s.extract 0 s.size = s := by
  have z : (s.extract 0 s.size).size = s.size := by rw [ByteArray.size_extract]; omega
  refine ba_ext _ _ z fun n hn => ?_
  rw [bt_ext s 0 s.size n (by omega) (Nat.le_refl _), Nat.zero_add]
theorem rc6 (s : ByteArray) (he : rcE s = 0) (h6 : sr (bt s 0) 4 = 6) : 40 ≤ s.size ∧ s.size ≤ 1500 ∧ bdv (s.extract 4 6) = (s.size : Int) - 40 := by
  unfold rcE at he
  rw [h6] at he
  split at he
  · cases he
  split at he
  · cases he
  split at he
  · rename_i h4
    cases h4
  split at he
  · unfold r6E at he
    split at he
    · cases he
    split at he
    · rename_i hb
      exact ⟨by omega, by omega, hb⟩
    · cases he
  · cases he
theorem rc4 (s : ByteArray) (he : rcE s = 0) (h6 : ¬ sr (bt s 0) 4 = 6) : 20 ≤ s.size ∧ s.size ≤ 1500 ∧ bdv (s.extract 2 4) = (s.size : Int) ∧ sumS (s.extract 0 20) = 0 := by
  unfold rcE at he
  split at he
  · cases he
  split at he
  · cases he
  split at he
  · unfold r4E at he
    split at he
    · cases he
    split at he
    · split at he
      · split at he
        · rename_i hb hc
          exact ⟨by omega, by omega, hb, hc⟩
        · cases he
      · cases he
    · cases he
  cases he
/-- What was read, written again. -/
def re6 (s : ByteArray) : ByteArray := dE6 (bdv (s.extract 8 16)) (bdv (s.extract 16 24)) (bdv (s.extract 24 32)) (bdv (s.extract 32 40)) (bt s 6) (bt s 7) (s.extract 40 s.size) true true
def re4 (s : ByteArray) : ByteArray := dE4 0 (bdv (s.extract 12 16)) 0 (bdv (s.extract 16 20)) (bt s 9) (bt s 8) (s.extract 20 s.size) false false
def reU (s : ByteArray) : ByteArray := if sr (bt s 0) 4 = 6 then re6 s else re4 s
def reD (s : ByteArray) : ByteArray := if sr (bt s 0) 4 = 6 then s.extract 40 s.size else s.extract 20 s.size
theorem reU_parts (s : ByteArray) (he : rcE s = 0) : (reU s).size = s.size ∧ (reD s).size ≤ s.size ∧ (reU s).extract (s.size - (reD s).size) s.size = reD s := by
  unfold reU reD
  by_cases h6 : sr (bt s 0) 4 = 6
  · obtain ⟨a, b, _⟩ := rc6 s he h6
    rw [if_pos h6, if_pos h6]
    have z := dE6_size (bdv (s.extract 8 16)) (bdv (s.extract 16 24)) (bdv (s.extract 24 32)) (bdv (s.extract 32 40)) (bt s 6) (bt s 7) (s.extract 40 s.size)
    have zd : (s.extract 40 s.size).size = s.size - 40 := by rw [ByteArray.size_extract]; omega
    have e : (re6 s).size = s.size := by
      unfold re6
      omega
    have t := (six_parts (bdv (s.extract 8 16)) (bdv (s.extract 16 24)) (bdv (s.extract 24 32)) (bdv (s.extract 32 40)) (bt s 6) (bt s 7) (s.extract 40 s.size)).2.2.2.2.2
    refine ⟨e, by omega, ?_⟩
    rw [zd, show s.size - (s.size - 40) = 40 by omega]
    have t' : (re6 s).extract 40 (re6 s).size = s.extract 40 s.size := t
    rw [e] at t'
    exact t'
  · obtain ⟨a, b, _⟩ := rc4 s he h6
    rw [if_neg h6, if_neg h6]
    have z := dE4_size 0 (bdv (s.extract 12 16)) 0 (bdv (s.extract 16 20)) (bt s 9) (bt s 8) (s.extract 20 s.size)
    have zd : (s.extract 20 s.size).size = s.size - 20 := by rw [ByteArray.size_extract]; omega
    have e : (re4 s).size = s.size := by
      unfold re4
      omega
    have t := (four_parts 0 (bdv (s.extract 12 16)) 0 (bdv (s.extract 16 20)) (bt s 9) (bt s 8) (s.extract 20 s.size)).2.2.2.2.1
    refine ⟨e, by omega, ?_⟩
    rw [zd, show s.size - (s.size - 20) = 20 by omega]
    have t' : (re4 s).extract 20 (re4 s).size = s.extract 20 s.size := t
    rw [e] at t'
    exact t'
theorem reU_six (s : ByteArray) (he : rcE s = 0) (b0 : bt s 0 = 96) (b1 : bt s 1 = 0) (b2 : bt s 2 = 0) (b3 : bt s 3 = 0) : reU s = s := by
  have hx6 : sr (bt s 0) 4 = 6 := by rw [b0]; rfl
  obtain ⟨a, b, c⟩ := rc6 s he hx6
  have zd : (s.extract 40 s.size).size = s.size - 40 := by rw [ByteArray.size_extract]; omega
  have z : ∀ i, i + 8 ≤ s.size → (s.extract i (i + 8)).size = 8 := fun i hi => by rw [ByteArray.size_extract]; omega
  have e46 : be2 (cv .u64 ((s.extract 40 s.size).size : Int)) = s.extract 4 6 := by
    rw [be2_u64, show (((s.extract 40 s.size).size : Nat) : Int) = bdv (s.extract 4 6) by omega]
    exact be2_bdv _ (by rw [ByteArray.size_extract]; omega)
  have eh : h6 (bt s 6) (bt s 7) (s.extract 40 s.size).size = s.extract 0 8 := by
    obtain ⟨c0, c1, c2, c3, c4, c5, c6, c7⟩ := h6_bt (bt s 6) (bt s 7) (bt_nn s 6) (bt_nn s 7) (s.extract 40 s.size).size
    have z8 := h6_size (bt s 6) (bt s 7) (s.extract 40 s.size).size
    refine ba_ext _ _ (by rw [z8]; exact (z 0 (by omega)).symm) fun i hi => ?_
    rw [z8] at hi
    rw [bt_ext s 0 8 i (by omega) (by omega), Nat.zero_add]
    rcases i with _ | _ | _ | _ | _ | _ | _ | _ | i
    · exact c0.trans b0.symm
    · exact c1.trans b1.symm
    · exact c2.trans b2.symm
    · exact c3.trans b3.symm
    · refine c4.trans ?_
      rw [e46, bt_ext s 4 6 0 (by omega) (by omega)]
    · refine c5.trans ?_
      rw [e46, bt_ext s 4 6 1 (by omega) (by omega)]
    · exact c6
    · exact c7
    · omega
  unfold reU
  rw [if_pos hx6]
  unfold re6
  rw [dE6_h, eh, be8_bdv _ (z 8 (by omega)), be8_bdv _ (z 16 (by omega)), be8_bdv _ (z 24 (by omega)), be8_bdv _ (z 32 (by omega))]
  rw [ext_join s 32 40 s.size (by omega) (by omega) (Nat.le_refl _), ext_join s 24 32 s.size (by omega) (by omega) (Nat.le_refl _), ext_join s 16 24 s.size (by omega) (by omega) (Nat.le_refl _), ext_join s 8 16 s.size (by omega) (by omega) (Nat.le_refl _), ext_join s 0 8 s.size (by omega) (by omega) (Nat.le_refl _), ext_all]
theorem tot_two (x : ByteArray) (h : x.size = 2) : tot x = bdv x := by
  have b := bdv_lt x 2 (by decide) (by omega)
  have e := tl2_tot (bdv x) b.1 (by have := b.2; omega)
  rw [show tl2 (bdv x) = be2 (bdv x) from rfl, be2_bdv x h] at e
  exact e
theorem tt_mono (s : ByteArray) (i j : Nat) (h : i ≤ j) : tt s i ≤ tt s j := by
  induction j with
  | zero =>
    obtain rfl : i = 0 := by omega
    exact Int.le_refl _
  | succ j ih =>
    by_cases e : i = j + 1
    · rw [e]; exact Int.le_refl _
    · have := ih (by omega)
      have b := bt_nn s j
      have : tt s j ≤ tt s (j + 1) := by
        rw [show tt s (j + 1) = tt s j + (if j % 2 = 0 then 256 * bt s j else bt s j) from rfl]
        split <;> omega
      omega
theorem reU_four (s : ByteArray) (he : rcE s = 0) (b0 : bt s 0 = 69) (b1 : bt s 1 = 0) (b4 : s.extract 4 8 = (⟨#[0, 0, 0, 0]⟩ : ByteArray)) (b10 : ¬ s.extract 10 12 = (⟨#[255, 255]⟩ : ByteArray)) : reU s = s := by
  have h6 : ¬ sr (bt s 0) 4 = 6 := by rw [b0]; decide
  obtain ⟨a, b, c, d⟩ := rc4 s he h6
  have zd : (s.extract 20 s.size).size = s.size - 20 := by rw [ByteArray.size_extract]; omega
  have z : ∀ i, i + 4 ≤ s.size → (s.extract i (i + 4)).size = 4 := fun i hi => by rw [ByteArray.size_extract]; omega
  have z10 : (s.extract 10 12).size = 2 := by rw [ByteArray.size_extract]; omega
  have z0 : (s.extract 0 10).size = 10 := by rw [ByteArray.size_extract]; omega
  have z12 : (s.extract 12 20).size = 8 := by rw [ByteArray.size_extract]; omega
  have q4 : ∀ k, k < 4 → bt s (4 + k) = 0 := by
    intro k hk
    rw [← bt_ext s 4 8 k (by omega) (by omega), b4]
    rcases k with _ | _ | _ | _ | k
    · rfl
    · rfl
    · rfl
    · rfl
    · omega
  have e24 : be2 (cv .u64 (20 + ((s.extract 20 s.size).size : Int))) = s.extract 2 4 := by
    rw [be2_u64, show (20 : Int) + (((s.extract 20 s.size).size : Nat) : Int) = bdv (s.extract 2 4) by omega]
    exact be2_bdv _ (by rw [ByteArray.size_extract]; omega)
  have eh : e4h (bt s 8) (bt s 9) (s.extract 20 s.size).size = s.extract 0 10 := by
    obtain ⟨c0, c1, c2, c3, c4, c5, c6, c7, c8, c9⟩ := h4_bt (bt s 9) (bt s 8) (bt_nn s 9) (bt_nn s 8) (s.extract 20 s.size).size
    have zh := e4h_size (bt s 8) (bt s 9) (s.extract 20 s.size).size
    refine ba_ext _ _ (by rw [zh, z0]) fun i hi => ?_
    rw [zh] at hi
    rw [bt_ext s 0 10 i (by omega) (by omega), Nat.zero_add]
    rcases i with _ | _ | _ | _ | _ | _ | _ | _ | _ | _ | i
    · exact c0.trans b0.symm
    · exact c1.trans b1.symm
    · refine c2.trans ?_
      rw [e24, bt_ext s 2 4 0 (by omega) (by omega)]
    · refine c3.trans ?_
      rw [e24, bt_ext s 2 4 1 (by omega) (by omega)]
    · exact c4.trans (q4 0 (by omega)).symm
    · exact c5.trans (q4 1 (by omega)).symm
    · exact c6.trans (q4 2 (by omega)).symm
    · exact c7.trans (q4 3 (by omega)).symm
    · exact c8
    · exact c9
    · omega
  have ek : e4k 0 (bdv (s.extract 12 16)) 0 (bdv (s.extract 16 20)) false false = s.extract 12 20 := by
    unfold e4k
    rw [dB_f, dB_f, be4_bdv _ (z 12 (by omega)), be4_bdv _ (z 16 (by omega)), ext_join s 12 16 20 (by omega) (by omega) (by omega)]
  have zz : (⟨#[0, 0]⟩ : ByteArray).size = 2 := rfl
  have zt : tot (⟨#[0, 0]⟩ : ByteArray) = 0 := rfl
  have eck : be2 (cv .u64 (sumS ((s.extract 0 10 ++ (⟨#[0, 0]⟩ : ByteArray)) ++ s.extract 12 20))) = s.extract 10 12 := by
    have t1 : tot ((s.extract 0 10 ++ (⟨#[0, 0]⟩ : ByteArray)) ++ s.extract 12 20) = tot (s.extract 0 10) + tot (s.extract 12 20) := by
      rw [tot_app _ _ (by rw [ByteArray.size_append, z0, zz]), tot_app _ _ (by rw [z0]), zt]
      omega
    have t2 : s.extract 0 20 = (s.extract 0 10 ++ s.extract 10 12) ++ s.extract 12 20 := by
      rw [ext_join s 0 10 12 (by omega) (by omega) (by omega), ext_join s 0 12 20 (by omega) (by omega) (by omega)]
    have t3 : tot (s.extract 0 20) = tot (s.extract 0 10) + bdv (s.extract 10 12) + tot (s.extract 12 20) := by
      rw [t2, tot_app _ _ (by rw [ByteArray.size_append, z0, z10]), tot_app _ _ (by rw [z0]), tot_two _ z10]
    have v := bdv_lt (s.extract 10 12) 2 (by decide) (by omega)
    have vn : bdv (s.extract 10 12) ≠ 65535 := by
      intro e
      apply b10
      rw [← be2_bdv _ z10, e]
      decide
    have pos : 0 < tot (s.extract 0 10) := by
      have m : tt (s.extract 0 10) 1 ≤ tt (s.extract 0 10) (s.extract 0 10).size := tt_mono _ 1 _ (by omega)
      have f1 : tt (s.extract 0 10) 1 = 0 + 256 * bt (s.extract 0 10) 0 := by
        simp [tt]
      rw [bt_ext s 0 10 0 (by omega) (by omega), b0] at f1
      unfold tot
      omega
    have n12 := tot_nn (s.extract 12 20)
    have hs : sumS ((s.extract 0 10 ++ (⟨#[0, 0]⟩ : ByteArray)) ++ s.extract 12 20) = bdv (s.extract 10 12) := by
      unfold sumS at d ⊢
      rw [t3] at d
      rw [t1]
      unfold Fs at d ⊢
      have v2 : bdv (s.extract 10 12) < 65536 := v.2
      generalize bdv (s.extract 10 12) = x at *
      generalize tot (s.extract 0 10) = y at *
      generalize tot (s.extract 12 20) = u at *
      rw [if_neg (by omega)] at d ⊢
      omega
    rw [hs, be2_u64, be2_bdv _ z10]
  unfold reU
  rw [if_neg h6]
  unfold re4 dE4
  rw [eh, ek, eck, ext_join s 0 10 12 (by omega) (by omega) (by omega), ext_join s 0 12 20 (by omega) (by omega) (by omega), ext_join s 0 20 s.size (by omega) (by omega) (Nat.le_refl _), ext_all]
end Go.Proofs.YtndonmdgplojnaaGreatDoor

/- Rows of bytes: what was joined is split; the first '::'. -/
namespace Go.Proofs.YtndonmdgplojnaaGreatDoor
open Go.RowKit

section
open Go.Lib
theorem occ1 (s : List UInt8) (c : UInt8) (j : Nat) : occAt s [c] j = true ↔ s[j]? = some c := by
  unfold occAt
  rw [show s[j]? = (s.drop j)[0]? by rw [List.getElem?_drop]; rfl]
  cases s.drop j with
  | nil => simp [List.isPrefixOf]
  | cons a l => simp [List.isPrefixOf]; exact eq_comm
theorem occ2 (s : List UInt8) (a b : UInt8) (j : Nat) : occAt s [a, b] j = true ↔ s[j]? = some a ∧ s[j + 1]? = some b := by
  unfold occAt
  rw [show s[j]? = (s.drop j)[0]? by rw [List.getElem?_drop]; rfl, show s[j + 1]? = (s.drop j)[1]? by rw [List.getElem?_drop]]
  cases s.drop j with
  | nil => simp [List.isPrefixOf]
  | cons x l =>
    cases l with
    | nil => simp [List.isPrefixOf]
    | cons y l =>
      simp only [List.isPrefixOf, Bool.and_true, Bool.and_eq_true, beq_iff_eq, List.getElem?_cons_zero, List.getElem?_cons_succ, Option.some.injEq]
      exact ⟨fun h => ⟨h.1.symm, h.2.symm⟩, fun h => ⟨h.1.symm, h.2.symm⟩⟩
theorem index1 (x t : List UInt8) (c : UInt8) (h : c ∉ x) : index (x ++ c :: t) [c] = x.length := by
  refine index_first (by simp) ((occ1 _ _ _).2 (by simp)) fun j hj => ?_
  refine Bool.eq_false_iff.2 fun e => ?_
  have := (occ1 _ _ _).1 e
  rw [List.getElem?_append_left hj] at this
  exact h (List.mem_of_getElem? this)
theorem index1_no (x : List UInt8) (c : UInt8) (h : c ∉ x) : index x [c] = -1 := by
  refine index_none fun j _ => Bool.eq_false_iff.2 fun e => ?_
  exact h (List.mem_of_getElem? ((occ1 _ _ _).1 e))
theorem index1_has (x t : List UInt8) (c : UInt8) : 0 ≤ index (x ++ c :: t) [c] := by
  rcases index_spec (x ++ c :: t) [c] with ⟨_, h⟩ | ⟨i, h, _⟩
  · have := h x.length (by simp)
    have e := (occ1 (x ++ c :: t) c x.length).2 (by simp)
    rw [e] at this
    cases this
  · omega
theorem join_two (x y : List UInt8) (r : List (List UInt8)) (c : UInt8) : join (x :: y :: r) [c] = x ++ c :: join (y :: r) [c] := by
  rw [join_cons, join_cons]
  simp [joinTail]
theorem splitK_join (c : UInt8) : ∀ (r : List (List UInt8)) (x : List UInt8), (∀ y ∈ x :: r, c ∉ y) → splitK [c] 0 r.length (join (x :: r) [c]) = x :: r
  | [], x, _ => by rw [join_one]; rfl
  | y :: r, x, h => by
    have hx : c ∉ x := h x (by simp)
    have e := index1 x (join (y :: r) [c]) c hx
    rw [join_two, List.length_cons, splitK, e, if_neg (by simp)]
    have e2 : (x ++ c :: join (y :: r) [c]).drop (((x.length : Nat) : Int).toNat + [c].length) = join (y :: r) [c] := by
      rw [Int.toNat_natCast, List.length_singleton, ← List.drop_drop, List.drop_left]
      rfl
    rw [e2, splitK_join c r y fun z hz => h z (List.mem_cons_of_mem _ hz)]
    simp
theorem count_join (c : UInt8) : ∀ (r : List (List UInt8)) (x : List UInt8) (fuel : Nat), (∀ y ∈ x :: r, c ∉ y) → r.length < fuel → countFrom [c] fuel (join (x :: r) [c]) = r.length
  | [], x, 0, _, hf => by simp at hf
  | [], x, fuel + 1, h, _ => by
    rw [join_one, countFrom, index1_no x c (h x (by simp))]
    rfl
  | y :: r, x, 0, _, hf => by simp at hf
  | y :: r, x, fuel + 1, h, hf => by
    have hx : c ∉ x := h x (by simp)
    have e := index1 x (join (y :: r) [c]) c hx
    rw [join_two, countFrom, e, if_neg (by simp)]
    have e2 : (x ++ c :: join (y :: r) [c]).drop (((x.length : Nat) : Int).toNat + [c].length) = join (y :: r) [c] := by
      rw [Int.toNat_natCast, List.length_singleton, ← List.drop_drop, List.drop_left]
      rfl
    rw [e2, count_join c r y fuel (fun z hz => h z (List.mem_cons_of_mem _ hz)) (by simp at hf; omega)]
    simp
    omega
theorem join_len (c : UInt8) : ∀ (r : List (List UInt8)) (x : List UInt8), r.length ≤ (join (x :: r) [c]).length
  | [], _ => by simp
  | y :: r, x => by
    have := join_len c r y
    rw [join_two]
    simp
    omega
theorem split_join (c : UInt8) (r : List (List UInt8)) (x : List UInt8) (h : ∀ y ∈ x :: r, c ∉ y) : splitK [c] 0 (count (join (x :: r) [c]) [c]) (join (x :: r) [c]) = x :: r := by
  have := join_len c r x
  rw [count, count_join c r x _ h (by omega)]
  exact splitK_join c r x h
/-- Behind each of these bytes another one stands. -/
def Lone (c : UInt8) (l : List UInt8) : Prop := ∀ j, l[j]? = some c → ∃ b, l[j + 1]? = some b ∧ b ≠ c
theorem join_lone (c : UInt8) : ∀ (r : List (List UInt8)) (x : List UInt8), (∀ y ∈ x :: r, c ∉ y ∧ y ≠ []) → Lone c (join (x :: r) [c])
  | [], x, h, j, hj => by
    rw [join_one] at hj
    exact absurd (List.mem_of_getElem? hj) (h x (by simp)).1
  | y :: r, x, h, j, hj => by
    have ih := join_lone c r y fun z hz => h z (List.mem_cons_of_mem _ hz)
    have hx := (h x (by simp)).1
    obtain ⟨hy1, hy2⟩ := h y (by simp)
    rw [join_two] at hj ⊢
    rcases Nat.lt_trichotomy j x.length with e | e | e
    · rw [List.getElem?_append_left e] at hj
      exact absurd (List.mem_of_getElem? hj) hx
    · subst e
      rw [List.getElem?_append_right (by omega), show x.length + 1 - x.length = 1 by omega, List.getElem?_cons_succ, join_cons]
      cases y with
      | nil => exact absurd rfl hy2
      | cons b y => exact ⟨b, rfl, fun e => hy1 (by rw [e]; simp)⟩
    · rw [List.getElem?_append_right (by omega), show j - x.length = (j - x.length - 1) + 1 by omega, List.getElem?_cons_succ] at hj
      obtain ⟨b, hb, hn⟩ := ih _ hj
      refine ⟨b, ?_, hn⟩
      rw [List.getElem?_append_right (by omega), show j + 1 - x.length = (j - x.length - 1) + 1 + 1 by omega, List.getElem?_cons_succ]
      exact hb
theorem index2_no (s : List UInt8) (c : UInt8) (h : Lone c s) : index s [c, c] = -1 := by
  refine index_none fun j _ => Bool.eq_false_iff.2 fun e => ?_
  obtain ⟨h1, h2⟩ := (occ2 _ _ _ _).1 e
  obtain ⟨b, h3, h4⟩ := h j h1
  rw [h2] at h3
  exact h4 (Option.some.inj h3).symm
theorem index2 (x t : List UInt8) (c : UInt8) (h : Lone c x) : index (x ++ c :: c :: t) [c, c] = x.length := by
  refine index_first (by simp) ((occ2 _ _ _ _).2 ⟨by simp, by simp⟩) fun j hj => Bool.eq_false_iff.2 fun e => ?_
  obtain ⟨h1, h2⟩ := (occ2 _ _ _ _).1 e
  rw [List.getElem?_append_left hj] at h1
  obtain ⟨b, h3, h4⟩ := h j h1
  have := (List.getElem?_eq_some_iff.1 h3).1
  rw [List.getElem?_append_left this, h3] at h2
  exact h4 (Option.some.inj h2)
end
theorem ba_list {a b : ByteArray} (h : a.data.toList = b.data.toList) : a = b := by
  apply ByteArray.ext
  exact Array.toList_inj.1 h
theorem map_list {l m : List ByteArray} (h : l.map (·.data.toList) = m.map (·.data.toList)) : l = m := by
  induction l generalizing m with
  | nil => cases m <;> simp_all
  | cons a l ih =>
    cases m with
    | nil => simp at h
    | cons b m =>
      simp only [List.map_cons, List.cons.injEq] at h
      rw [ba_list h.1, ih h.2]
/-- Words that have no such byte: joined, and split again. -/
theorem spl_jn (c : UInt8) (x : ByteArray) (r : List ByteArray) (h : ∀ y ∈ x :: r, c ∉ y.data.toList) : spl (jn (x :: r) ⟨#[c]⟩) ⟨#[c]⟩ = x :: r := by
  apply map_list
  unfold spl
  rw [Lib.splitB_data]
  exact split_join c (r.map (·.data.toList)) x.data.toList (by
    intro y hy
    rw [← List.map_cons (f := fun z : ByteArray => z.data.toList)] at hy
    obtain ⟨z, hz, rfl⟩ := List.mem_map.1 hy
    exact h z hz)
theorem cut_hit (s sep : List UInt8) (i : Nat) (h : Lib.index s sep = i) : Lib.cut s sep = (s.take i, s.drop (i + sep.length), true) := by
  unfold Lib.cut
  rw [h, if_pos (by omega), Int.toNat_natCast]
theorem cut_miss (s sep : List UInt8) (h : Lib.index s sep = -1) : Lib.cut s sep = (s, [], false) := by
  unfold Lib.cut
  rw [h, if_neg (by omega)]
theorem cut1 (x y : ByteArray) (c : UInt8) (h : c ∉ x.data.toList) : cuA ((x ++ (⟨#[c]⟩ : ByteArray)) ++ y) ⟨#[c]⟩ = x ∧ cuB ((x ++ (⟨#[c]⟩ : ByteArray)) ++ y) ⟨#[c]⟩ = y := by
  have e : ((x ++ (⟨#[c]⟩ : ByteArray)) ++ y).data.toList = x.data.toList ++ c :: y.data.toList := by simp [ByteArray.data_append]
  have hi := cut_hit _ [c] _ (index1 x.data.toList y.data.toList c h)
  unfold cuA cuB
  rw [e, show (ByteArray.mk #[c]).data.toList = [c] from rfl, hi]
  refine ⟨ba_list (List.take_left' rfl), ba_list ?_⟩
  show List.drop (x.data.toList.length + 1) _ = _
  rw [← List.drop_drop, List.drop_left]
  rfl
theorem cut2 (x y : ByteArray) (c : UInt8) (h : Lone c x.data.toList) : cuA ((x ++ (⟨#[c, c]⟩ : ByteArray)) ++ y) ⟨#[c, c]⟩ = x ∧ cuB ((x ++ (⟨#[c, c]⟩ : ByteArray)) ++ y) ⟨#[c, c]⟩ = y := by
  have e : ((x ++ (⟨#[c, c]⟩ : ByteArray)) ++ y).data.toList = x.data.toList ++ c :: c :: y.data.toList := by simp [ByteArray.data_append]
  have hi := cut_hit _ [c, c] _ (index2 x.data.toList y.data.toList c h)
  unfold cuA cuB
  rw [e, show (ByteArray.mk #[c, c]).data.toList = [c, c] from rfl, hi]
  refine ⟨ba_list (List.take_left' rfl), ba_list ?_⟩
  show List.drop (x.data.toList.length + 2) _ = _
  rw [← List.drop_drop, List.drop_left]
  rfl
theorem cut2_no (x : ByteArray) (c : UInt8) (h : Lone c x.data.toList) : cuA x ⟨#[c, c]⟩ = x ∧ cuB x ⟨#[c, c]⟩ = ⟨#[]⟩ := by
  have hi := cut_miss _ [c, c] (index2_no x.data.toList c h)
  unfold cuA cuB
  rw [show (ByteArray.mk #[c, c]).data.toList = [c, c] from rfl, hi]
  exact ⟨rfl, rfl⟩
theorem ctn_yes (x y : ByteArray) (z : ByteArray) (c : UInt8) (h : z.data.toList = x.data.toList ++ c :: y.data.toList) : ctn z ⟨#[c]⟩ = true := by
  unfold ctn Lib.contains
  rw [h]
  exact decide_eq_true (index1_has _ _ _)
theorem ctn_no (x : ByteArray) (c : UInt8) (h : c ∉ x.data.toList) : ctn x ⟨#[c]⟩ = false := by
  unfold ctn Lib.contains
  rw [show Lib.index x.data.toList (ByteArray.mk #[c]).data.toList = -1 from index1_no _ _ h]
  rfl
end Go.Proofs.YtndonmdgplojnaaGreatDoor

/- Numbers that are told are read: digits, words, groups. -/
namespace Go.Proofs.YtndonmdgplojnaaGreatDoor
open Go.RowKit

theorem dgt_ok : ∀ k, k < 16 → dv (dgt k) = (k : Int) ∧ 0 ≤ dgt k ∧ dgt k < 256 ∧ dgt k ≠ 46 ∧ dgt k ≠ 47 ∧ dgt k ≠ 58 := by decide +kernel
theorem dec_ok : ∀ n : Nat, n < 256 → nmb 10 255 (dcT (n : Int)) = some (n : Int) ∧ dcT (n : Int) ≠ ⟨#[]⟩ ∧ (46 : UInt8) ∉ (dcT (n : Int)).data.toList ∧ (47 : UInt8) ∉ (dcT (n : Int)).data.toList ∧ (58 : UInt8) ∉ (dcT (n : Int)).data.toList := by decide +kernel
theorem pz_step (b m : Int) (s : ByteArray) (j : Nat) (a k : Int) (h : pz b m s j = some a) (hk : dv (bt s j) = k) (h1 : k < b) (h2 : a * b + k ≤ m) : pz b m s (j + 1) = some (a * b + k) := by
  rw [pz, h, Option.bind_some, hk, if_pos h1, if_neg (by omega)]
theorem bs_mem (l : List Int) (c : UInt8) (hl : ∀ x ∈ l, 0 ≤ x ∧ x < 256 ∧ x ≠ (c.toNat : Int)) : c ∉ (bs l).data.toList := by
  intro h
  unfold bs at h
  simp only [List.mem_map] at h
  obtain ⟨x, hx, e⟩ := h
  have ⟨h0, h1, h2⟩ := hl x hx
  apply h2
  rw [← e]
  simp
  omega
/-- A number in sixteens: its digits. -/
def hxD (n : Nat) : List Nat := if n < 16 then [n] else if n < 256 then [n / 16, n % 16] else if n < 4096 then [n / 16 / 16, n / 16 % 16, n % 16] else [n / 16 / 16 / 16, n / 16 / 16 % 16, n / 16 % 16, n % 16]
theorem hxT_eq (n : Nat) : hxT n = bs ((hxD n).map dgt) := by
  unfold hxT hxD
  split
  · rfl
  split
  · rfl
  split <;> rfl
theorem hxD_lt (n : Nat) (h : n < 65536) : ∀ k ∈ hxD n, k < 16 := by
  intro k hk
  unfold hxD at hk
  split at hk
  · simp at hk; omega
  split at hk
  · simp at hk; omega
  split at hk
  · simp at hk; omega
  · simp at hk; omega
theorem hx_bt (ks : List Nat) (h : ∀ k ∈ ks, k < 16) (j : Nat) (k : Nat) (hj : ks[j]? = some k) : dv (bt (bs (ks.map dgt)) j) = (k : Int) := by
  have hb : ∀ x ∈ ks.map dgt, 0 ≤ x ∧ x < 256 := by
    intro x hx
    obtain ⟨k, hk, rfl⟩ := List.mem_map.1 hx
    have := dgt_ok k (h k hk)
    exact ⟨this.2.1, this.2.2.1⟩
  rw [bt_bs _ hb, List.getD_eq_getElem?_getD, List.getElem?_map, hj]
  exact (dgt_ok k (h k (List.mem_of_getElem? hj))).1
theorem hx_nmb (n : Nat) (h : n < 65536) : nmb 16 65535 (hxT n) = some (n : Int) := by
  have hl := hxD_lt n h
  have hz := hxT_size n
  have hb := hx_bt (hxD n) hl
  have p0 : pz 16 65535 (hxT n) 0 = some 0 := rfl
  have hs : (hxT n).size = (hxD n).length := by rw [hxT_eq, bs_size, List.length_map]
  have hne : 0 < (hxD n).length := by
    unfold hxD
    split
    · simp
    split
    · simp
    split <;> simp
  unfold nmb prs
  rw [if_neg (by omega), if_neg (fun e => by rw [e] at hs; have : (ByteArray.mk #[]).size = 0 := rfl; omega), hs]
  rw [← hxT_eq] at hb
  unfold hxD at hb ⊢
  split
  · rename_i c1
    rw [if_pos c1] at hb
    have := pz_step 16 65535 _ 0 0 n p0 (hb 0 _ rfl) (by omega) (by omega)
    rw [show (0 : Int) * 16 + n = n by omega] at this
    exact this
  · rename_i c1
    rw [if_neg c1] at hb
    split
    · rename_i c2
      rw [if_pos c2] at hb
      have p1 := pz_step 16 65535 _ 0 0 _ p0 (hb 0 _ rfl) (by omega) (by omega)
      have p2 := pz_step 16 65535 _ 1 _ _ p1 (hb 1 _ rfl) (by omega) (by omega)
      refine p2.trans (congrArg some ?_)
      omega
    · rename_i c2
      rw [if_neg c2] at hb
      split
      · rename_i c3
        rw [if_pos c3] at hb
        have p1 := pz_step 16 65535 _ 0 0 _ p0 (hb 0 _ rfl) (by omega) (by omega)
        have p2 := pz_step 16 65535 _ 1 _ _ p1 (hb 1 _ rfl) (by omega) (by omega)
        have p3 := pz_step 16 65535 _ 2 _ _ p2 (hb 2 _ rfl) (by omega) (by omega)
        refine p3.trans (congrArg some ?_)
        omega
      · rename_i c3
        rw [if_neg c3] at hb
        have p1 := pz_step 16 65535 _ 0 0 _ p0 (hb 0 _ rfl) (by omega) (by omega)
        have p2 := pz_step 16 65535 _ 1 _ _ p1 (hb 1 _ rfl) (by omega) (by omega)
        have p3 := pz_step 16 65535 _ 2 _ _ p2 (hb 2 _ rfl) (by omega) (by omega)
        have p4 := pz_step 16 65535 _ 3 _ _ p3 (hb 3 _ rfl) (by omega) (by omega)
        refine p4.trans (congrArg some ?_)
        omega
theorem hx_ok (n : Nat) (h : n < 65536) : hxT n ≠ ⟨#[]⟩ ∧ (46 : UInt8) ∉ (hxT n).data.toList ∧ (47 : UInt8) ∉ (hxT n).data.toList ∧ (58 : UInt8) ∉ (hxT n).data.toList := by
  have hl := hxD_lt n h
  have hx : ∀ x ∈ (hxD n).map dgt, 0 ≤ x ∧ x < 256 ∧ x ≠ 46 ∧ x ≠ 47 ∧ x ≠ 58 := by
    intro x hx
    obtain ⟨k, hk, rfl⟩ := List.mem_map.1 hx
    exact (dgt_ok k (hl k hk)).2
  refine ⟨fun e => ?_, ?_, ?_, ?_⟩
  · have := hx_nmb n h
    rw [e] at this
    cases this
  · rw [hxT_eq]
    exact bs_mem _ _ fun x hm => ⟨(hx x hm).1, (hx x hm).2.1, (hx x hm).2.2.1⟩
  · rw [hxT_eq]
    exact bs_mem _ _ fun x hm => ⟨(hx x hm).1, (hx x hm).2.1, (hx x hm).2.2.2.1⟩
  · rw [hxT_eq]
    exact bs_mem _ _ fun x hm => ⟨(hx x hm).1, (hx x hm).2.1, (hx x hm).2.2.2.2⟩
/-- Words that are read one by one. -/
theorem nl_words (b m : Int) (W : Nat → ByteArray) (f : Nat → Int) (n : Nat) (h : ∀ i, i < n → nmb b m (W i) = some (f i)) (j : Nat) (hj : j ≤ n) : nl b m ((List.range n).map W) j = some ((List.range j).map f) := by
  induction j with
  | zero => rfl
  | succ j ih =>
    have e : tg ((List.range n).map W) j = W j := by
      unfold tg
      rw [List.getD_eq_getElem?_getD, List.getElem?_map, List.getElem?_range (by omega)]
      rfl
    rw [nl, ih (by omega), Option.bind_some, e, h j (by omega), List.range_succ, List.map_append]
    rfl
theorem range_cons (n : Nat) (W : Nat → ByteArray) : (List.range (n + 1)).map W = W 0 :: (List.range n).map fun i => W (i + 1) := by
  rw [List.range_succ_eq_map, List.map_cons, List.map_map]
  rfl
theorem jn_zero (c : UInt8) (W : Nat → ByteArray) : jn ((List.range 0).map W) ⟨#[c]⟩ = ⟨#[]⟩ := rfl
theorem jn_ne (c : UInt8) (x : ByteArray) (r : List ByteArray) (h : x ≠ ⟨#[]⟩) : jn (x :: r) ⟨#[c]⟩ ≠ ⟨#[]⟩ := by
  intro e
  have e2 : Lib.join ((x :: r).map (·.data.toList)) [c] = [] := by
    have := congrArg (fun z : ByteArray => z.data.toList) e
    exact this
  rw [List.map_cons, Lib.join_cons] at e2
  have := (List.append_eq_nil_iff.1 e2).1
  exact h (ba_list this)
theorem nbs_jn (b m : Int) (c : UInt8) (W : Nat → ByteArray) (f : Nat → Int) (n : Nat) (h : ∀ i, i < n → nmb b m (W i) = some (f i)) (hc : ∀ i, i < n → c ∉ (W i).data.toList) (hn : ∀ i, i < n → W i ≠ ⟨#[]⟩) : nbs b m (jn ((List.range n).map W) ⟨#[c]⟩) ⟨#[c]⟩ = some ((List.range n).map f) := by
  unfold nbs
  cases n with
  | zero =>
    rw [if_pos (jn_zero c W)]
    rfl
  | succ n =>
    have e : spl (jn ((List.range (n + 1)).map W) ⟨#[c]⟩) ⟨#[c]⟩ = (List.range (n + 1)).map W := by
      rw [range_cons]
      refine spl_jn c _ _ ?_
      rw [← range_cons]
      intro y hy
      obtain ⟨i, hi, rfl⟩ := List.mem_map.1 hy
      exact hc i (List.mem_range.1 hi)
    rw [if_neg (by rw [range_cons]; exact jn_ne c _ _ (hn 0 (by omega))), e, List.length_map, List.length_range]
    exact nl_words b m W f (n + 1) h _ (Nat.le_refl _)
theorem jn_lone (c : UInt8) (W : Nat → ByteArray) (n : Nat) (hc : ∀ i, i < n → c ∉ (W i).data.toList) (hn : ∀ i, i < n → W i ≠ ⟨#[]⟩) : Lone c (jn ((List.range n).map W) ⟨#[c]⟩).data.toList := by
  cases n with
  | zero =>
    intro j hj
    rw [jn_zero c W] at hj
    simp at hj
  | succ n =>
    have e : (jn ((List.range (n + 1)).map W) ⟨#[c]⟩).data.toList = Lib.join ((W 0).data.toList :: ((List.range n).map fun i => (W (i + 1)).data.toList)) [c] := by
      rw [range_cons]
      unfold jn
      rw [List.map_cons, List.map_map]
      rfl
    rw [e]
    refine join_lone c _ _ ?_
    intro y hy
    have hy2 : ∃ i, i < n + 1 ∧ (W i).data.toList = y := by
      rcases List.mem_cons.1 hy with rfl | hy
      · exact ⟨0, by omega, rfl⟩
      · obtain ⟨i, hi, rfl⟩ := List.mem_map.1 hy
        exact ⟨i + 1, by have := List.mem_range.1 hi; omega, rfl⟩
    obtain ⟨i, hi, rfl⟩ := hy2
    exact ⟨hc i hi, fun e => hn i hi (ba_list e)⟩
theorem jn_mem (c d : UInt8) (W : Nat → ByteArray) (n : Nat) (hcd : d ≠ c) (hc : ∀ i, i < n → d ∉ (W i).data.toList) : d ∉ (jn ((List.range n).map W) ⟨#[c]⟩).data.toList := by
  cases n with
  | zero =>
    rw [jn_zero c W]
    simp
  | succ n =>
    have e : (jn ((List.range (n + 1)).map W) ⟨#[c]⟩).data.toList = Lib.join ((W 0).data.toList :: ((List.range n).map fun i => (W (i + 1)).data.toList)) [c] := by
      rw [range_cons]
      unfold jn
      rw [List.map_cons, List.map_map]
      rfl
    rw [e, Lib.join_cons]
    intro h
    rcases List.mem_append.1 h with h | h
    · exact hc 0 (by omega) h
    · unfold Lib.joinTail at h
      obtain ⟨l, hl, hm⟩ := List.mem_flatten.1 h
      obtain ⟨y, hy, rfl⟩ := List.mem_map.1 hl
      obtain ⟨i, hi, rfl⟩ := List.mem_map.1 hy
      rcases List.mem_append.1 hm with hm | hm
      · simp at hm
        exact hcd hm
      · exact hc (i + 1) (by have := List.mem_range.1 hi; omega) hm
theorem jn_size (c : UInt8) (W : Nat → ByteArray) (k n : Nat) (h : ∀ i, (W i).size ≤ k) : (jn ((List.range (n + 1)).map W) ⟨#[c]⟩).size ≤ n + (n + 1) * k := by
  have e : (jn ((List.range (n + 1)).map W) ⟨#[c]⟩).size = (Lib.join ((W 0).data.toList :: ((List.range n).map fun i => (W (i + 1)).data.toList)) [c]).length := by
    rw [range_cons]
    unfold jn
    rw [List.map_cons, List.map_map]
    simp [ByteArray.size]
    rfl
  have hz : ∀ (n : Nat) (V : Nat → ByteArray), (∀ i, (V i).size ≤ k) → (Lib.joinTail [c] ((List.range n).map fun i => (V i).data.toList)).length ≤ n * (1 + k) := by
    intro n
    induction n with
    | zero => intro V _; simp [Lib.joinTail]
    | succ n ih =>
      intro V hV
      have a := ih V hV
      have b := hV n
      have e : (V n).data.toList.length = (V n).size := rfl
      rw [List.range_succ, List.map_append]
      unfold Lib.joinTail at a ⊢
      rw [List.map_append, List.flatten_append, List.length_append]
      simp only [List.map_cons, List.map_nil, List.flatten_cons, List.flatten_nil, List.append_nil, List.length_append, List.length_cons, List.length_nil]
      rw [Nat.succ_mul]
      omega
  have h1 := hz n (fun i => W (i + 1)) fun i => h (i + 1)
  have h0 := h 0
  have e0 : (W 0).data.toList.length = (W 0).size := rfl
  rw [e, Lib.join_cons, List.length_append, e0]
  rw [Nat.mul_add, Nat.mul_one] at h1
  rw [Nat.succ_mul]
  omega
end Go.Proofs.YtndonmdgplojnaaGreatDoor

/- Addresses: what is told of one is guessed as it. -/
namespace Go.Proofs.YtndonmdgplojnaaGreatDoor
open Go.RowKit

/-- Bits laid behind others. -/
theorem uo_sl (x y : Int) (i : Nat) (p : Int) (hp : p = 2 ^ i) (h0 : 0 ≤ x) (h1 : x * p + y < 18446744073709551616) (y0 : 0 ≤ y) (y1 : y < p) : uo (sl x i) y = x * p + y := by
  subst hp
  obtain ⟨n, rfl⟩ := Int.eq_ofNat_of_zero_le h0
  obtain ⟨c, rfl⟩ := Int.eq_ofNat_of_zero_le y0
  have hc : c < 2 ^ i := by
    have : ((c : Nat) : Int) < ((2 ^ i : Nat) : Int) := by
      rw [Int.natCast_pow]
      exact y1
    exact Int.ofNat_lt.1 this
  have e0 : (n : Int) * 2 ^ i = ((n * 2 ^ i : Nat) : Int) := by
    rw [Int.natCast_mul, Int.natCast_pow]
    rfl
  rw [e0] at h1 ⊢
  have hs : sl (n : Int) i = ((n * 2 ^ i : Nat) : Int) := by
    unfold sl
    rw [e0, IntKind.wrap_u64]
    omega
  have e1 : BitVec.ofInt 64 ((n * 2 ^ i : Nat) : Int) = BitVec.ofNat 64 (n * 2 ^ i) := rfl
  have e2 : BitVec.ofInt 64 (c : Int) = BitVec.ofNat 64 c := rfl
  unfold uo
  rw [hs, e1, e2, BitVec.toNat_or, BitVec.toNat_ofNat, BitVec.toNat_ofNat, Nat.mod_eq_of_lt (by omega), Nat.mod_eq_of_lt (by omega)]
  have e3 : n * 2 ^ i ||| c = n * 2 ^ i + c := by
    rw [Nat.mul_comm]
    exact (Nat.two_pow_add_eq_or_of_lt hc n).symm
  rw [e3, IntKind.wrap_u64]
  omega
theorem cv_16 (x : Int) : cv .u16 x = x % 65536 := by
  unfold cv
  simp [IntKind.wrap, IntKind.signed, IntKind.bits]
theorem sr_ed (x : Int) (n : Nat) : sr x n = x / 2 ^ n := by
  unfold sr
  rw [Int.fdiv_eq_ediv_of_nonneg _ (Int.le_of_lt (Int.pow_pos (by decide)))]
theorem ad_four (a b c d x : Int) (ha : a = x / 281474976710656 % 65536) (hb : b = x / 4294967296 % 65536) (hc : c = x / 65536 % 65536) (hd : d = x % 65536) (h0 : 0 ≤ x) (h1 : x < 18446744073709551616) :
    uo (sl (uo (sl (uo (sl (uo (sl 0 16) (cv .u64 a)) 16) (cv .u64 b)) 16) (cv .u64 c)) 16) (cv .u64 d) = x := by
  have cu : ∀ y : Int, 0 ≤ y ∧ y < 65536 → cv .u64 y = y := fun y hy => by
    rw [cv_u64]
    omega
  rw [cu a (by omega), cu b (by omega), cu c (by omega), cu d (by omega)]
  rw [uo_sl 0 a 16 65536 rfl (by omega) (by omega) (by omega) (by omega)]
  rw [uo_sl _ b 16 65536 rfl (by omega) (by omega) (by omega) (by omega)]
  rw [uo_sl _ c 16 65536 rfl (by omega) (by omega) (by omega) (by omega)]
  rw [uo_sl _ d 16 65536 rfl (by omega) (by omega) (by omega) (by omega)]
  omega
theorem gg_at (h l : Int) (j : Nat) (hj : j < 8) : ggs h l j = cv .u16 (sr (if 4 ≤ j then l else h) (48 - 16 * ((j % 4 : Nat) : Int)).toNat) := by
  unfold ggs cutf gp
  rw [if_pos hj]
theorem adH_ggs (h : Int) (l : Int) (h0 : 0 ≤ h) (h1 : h < 18446744073709551616) (f : Nat → Int) (e : ∀ j, j < 8 → f j = ggs h l j) : adH f = h := by
  unfold adH
  refine ad_four _ _ _ _ h ?_ ?_ ?_ ?_ h0 h1
  · rw [e 0 (by omega), gg_at h l 0 (by omega), cv_16, sr_ed]; rfl
  · rw [e 1 (by omega), gg_at h l 1 (by omega), cv_16, sr_ed]; rfl
  · rw [e 2 (by omega), gg_at h l 2 (by omega), cv_16, sr_ed]; rfl
  · rw [e 3 (by omega), gg_at h l 3 (by omega), cv_16, sr_ed]; show h / 1 % 65536 = _; rw [Int.ediv_one]
theorem adL_ggs (h : Int) (l : Int) (l0 : 0 ≤ l) (l1 : l < 18446744073709551616) (f : Nat → Int) (e : ∀ j, j < 8 → f j = ggs h l j) : adL f = l := by
  unfold adL
  refine ad_four _ _ _ _ l ?_ ?_ ?_ ?_ l0 l1
  · rw [e 4 (by omega), gg_at h l 4 (by omega), cv_16, sr_ed]; rfl
  · rw [e 5 (by omega), gg_at h l 5 (by omega), cv_16, sr_ed]; rfl
  · rw [e 6 (by omega), gg_at h l 6 (by omega), cv_16, sr_ed]; rfl
  · rw [e 7 (by omega), gg_at h l 7 (by omega), cv_16, sr_ed]; show l / 1 % 65536 = _; rw [Int.ediv_one]
/-- The longest row of noughts is one of noughts. -/
theorem uS_zero (f : Nat → Int) (j : Nat) : (∀ i : Nat, (uS f j).1 ≤ (i : Int) → i < j → f i = 0) ∧ (∀ i : Nat, (uS f j).2.1 ≤ (i : Int) → (i : Int) < (uS f j).2.2 → f i = 0) := by
  induction j with
  | zero => exact ⟨fun i _ h => by omega, fun i h1 h2 => by have e1 : (uS f 0).2.1 = 0 := rfl; have e2 : (uS f 0).2.2 = 0 := rfl; omega⟩
  | succ j ih =>
    obtain ⟨a, b⟩ := ih
    have key : ∀ i : Nat, (if f j = 0 then (uS f j).1 else (j : Int) + 1) ≤ (i : Int) → i < j + 1 → f i = 0 := by
      intro i h1 h2
      by_cases e : f j = 0
      · rw [if_pos e] at h1
        by_cases e2 : i = j
        · rw [e2]; exact e
        · exact a i h1 (by omega)
      · rw [if_neg e] at h1
        omega
    have e : uS f (j + 1) = if max ((uS f j).2.2 - (uS f j).2.1) 1 < (j : Int) + 1 - (if f j = 0 then (uS f j).1 else (j : Int) + 1) then ((if f j = 0 then (uS f j).1 else (j : Int) + 1), (if f j = 0 then (uS f j).1 else (j : Int) + 1), (j : Int) + 1) else ((if f j = 0 then (uS f j).1 else (j : Int) + 1), (uS f j).2.1, (uS f j).2.2) := rfl
    by_cases c : max ((uS f j).2.2 - (uS f j).2.1) 1 < (j : Int) + 1 - (if f j = 0 then (uS f j).1 else (j : Int) + 1)
    · rw [e, if_pos c]
      exact ⟨key, fun i h1 h2 => key i h1 (by have h3 : (i : Int) < (j : Int) + 1 := h2; omega)⟩
    · rw [e, if_neg c]
      exact ⟨key, b⟩
theorem u_zero (f : Nat → Int) (i : Nat) (h1 : uF f ≤ i) (h2 : i < uT f) : f i = 0 := by
  have n := uS_nn f 8
  unfold uF at h1
  unfold uT at h2
  exact (uS_zero f 8).2 i (by omega) (by omega)
theorem map_tgi (f : Nat → Int) (n i : Nat) (h : i < n) : tgi ((List.range n).map f) i = f i := by
  unfold tgi
  rw [List.getD_eq_getElem?_getD, List.getElem?_map, List.getElem?_range h]
  rfl
theorem hxW (f : Nat → Int) (hf : ∀ i, 0 ≤ f i ∧ f i < 65536) (i : Nat) : nmb 16 65535 (hxT (f i).toNat) = some (f i) := by
  have := hf i
  rw [hx_nmb _ (by omega)]
  congr 1
  omega
theorem hxN (f : Nat → Int) (hf : ∀ i, 0 ≤ f i ∧ f i < 65536) (i : Nat) : hxT (f i).toNat ≠ ⟨#[]⟩ ∧ (46 : UInt8) ∉ (hxT (f i).toNat).data.toList ∧ (47 : UInt8) ∉ (hxT (f i).toNat).data.toList ∧ (58 : UInt8) ∉ (hxT (f i).toNat).data.toList := by
  have := hf i
  exact hx_ok _ (by omega)
theorem lk6_tx6 (h : Int) (l : Int) (h0 : 0 ≤ h) (h1 : h < 18446744073709551616) (l0 : 0 ≤ l) (l1 : l < 18446744073709551616) : lk6 (tx6 h l) = some (h, l) := by
  have hf := ggs_nn h l
  have hu := uF_le (ggs h l)
  by_cases e : ((uF (ggs h l) : Nat) : Int) = ((uT (ggs h l) : Nat) : Int)
  · have et : tx6 h l = jn (ws16 (ggs h l) 8) ⟨#[58]⟩ := if_pos e
    have lo : Lone 58 (jn (ws16 (ggs h l) 8) ⟨#[58]⟩).data.toList := jn_lone 58 _ 8 (fun i _ => (hxN _ hf i).2.2.2) (fun i _ => (hxN _ hf i).1)
    have n1 := nbs_jn 16 65535 58 _ (ggs h l) 8 (fun i _ => hxW _ hf i) (fun i _ => (hxN _ hf i).2.2.2) (fun i _ => (hxN _ hf i).1)
    have n2 : nbs 16 65535 ⟨#[]⟩ ⟨#[58]⟩ = some [] := rfl
    obtain ⟨c1, c2⟩ := cut2_no _ 58 lo
    unfold lk6
    rw [et, c1, c2, n2]
    unfold ws16
    rw [n1]
    have ef : ∀ j, j < 8 → g6 ((List.range 8).map (ggs h l)) [] j = ggs h l j := by
      intro j hj
      unfold g6
      rw [cpl_nil]
      unfold cpl
      rw [if_pos (by simp; omega), map_tgi _ _ _ (by omega)]
      rfl
    show (if _ then none else some (adH _, adL _)) = _
    rw [if_neg (by simp), adH_ggs h l h0 h1 _ ef, adL_ggs h l l0 l1 _ ef]
  · have et : tx6 h l = (jn (ws16 (ggs h l) (uF (ggs h l))) ⟨#[58]⟩ ++ (⟨#[58, 58]⟩ : ByteArray)) ++ jn (ws16 (fun i => ggs h l (uT (ggs h l) + i)) (8 - uT (ggs h l))) ⟨#[58]⟩ := if_neg e
    have lo : Lone 58 (jn (ws16 (ggs h l) (uF (ggs h l))) ⟨#[58]⟩).data.toList := jn_lone 58 _ _ (fun i _ => (hxN _ hf i).2.2.2) (fun i _ => (hxN _ hf i).1)
    have n1 := nbs_jn 16 65535 58 _ (ggs h l) (uF (ggs h l)) (fun i _ => hxW _ hf i) (fun i _ => (hxN _ hf i).2.2.2) (fun i _ => (hxN _ hf i).1)
    have n2 := nbs_jn 16 65535 58 _ (fun i => ggs h l (uT (ggs h l) + i)) (8 - uT (ggs h l)) (fun i _ => hxW _ hf (uT (ggs h l) + i)) (fun i _ => (hxN _ hf (uT (ggs h l) + i)).2.2.2) (fun i _ => (hxN _ hf (uT (ggs h l) + i)).1)
    obtain ⟨c1, c2⟩ := cut2 _ (jn (ws16 (fun i => ggs h l (uT (ggs h l) + i)) (8 - uT (ggs h l))) ⟨#[58]⟩) 58 lo
    unfold lk6
    rw [et, c1, c2]
    unfold ws16
    rw [n1, n2]
    have ef : ∀ j, j < 8 → g6 ((List.range (uF (ggs h l))).map (ggs h l)) ((List.range (8 - uT (ggs h l))).map fun i => ggs h l (uT (ggs h l) + i)) j = ggs h l j := by
      intro j hj
      unfold g6 cpl
      simp only [List.length_map, List.length_range]
      split
      · rename_i c
        rw [map_tgi _ _ _ (by omega)]
        congr 1
        omega
      · split
        · rw [map_tgi _ _ _ (by omega)]
          congr 1
        · exact (u_zero _ j (by omega) (by omega)).symm
    show (if _ then none else some (adH _, adL _)) = _
    rw [if_neg (by simp only [List.length_map, List.length_range]; omega), adH_ggs h l h0 h1 _ ef, adL_ggs h l l0 l1 _ ef]
theorem tx6_ctn (h l : Int) : ctn (tx6 h l) ⟨#[58]⟩ = true := by
  unfold tx6
  split
  · have e : (jn (ws16 (ggs h l) 8) ⟨#[58]⟩).data.toList = (hxT (ggs h l 0).toNat).data.toList ++ 58 :: (jn ((List.range 7).map fun i => hxT (ggs h l (i + 1)).toNat) ⟨#[58]⟩).data.toList := by
      unfold ws16
      rw [range_cons, range_cons]
      exact join_two _ _ _ _
    exact ctn_yes _ _ _ 58 e
  · refine ctn_yes (jn (ws16 (ggs h l) (uF (ggs h l))) ⟨#[58]⟩) ((⟨#[58]⟩ : ByteArray) ++ jn (ws16 (fun i => ggs h l (uT (ggs h l) + i)) (8 - uT (ggs h l))) ⟨#[58]⟩) _ 58 ?_
    simp [ByteArray.data_append]
theorem tx6_size (h l : Int) : (tx6 h l).size ≤ 39 := by
  have hu := uF_le (ggs h l)
  have js : ∀ (f : Nat → Int) (n : Nat), (jn (ws16 f n) ⟨#[58]⟩).size ≤ 5 * n := by
    intro f n
    cases n with
    | zero => exact Nat.le_refl _
    | succ n =>
      have := jn_size 58 (fun i => hxT (f i).toNat) 4 n fun i => hxT_size _
      unfold ws16
      omega
  unfold tx6
  split
  · have := jn_size 58 (fun i => hxT (ggs h l i).toNat) 4 7 fun i => hxT_size _
    unfold ws16
    exact Nat.le_trans this (by decide)
  · rename_i e
    have a := js (ggs h l) (uF (ggs h l))
    have b := js (fun i => ggs h l (uT (ggs h l) + i)) (8 - uT (ggs h l))
    have z : (⟨#[58, 58]⟩ : ByteArray).size = 2 := rfl
    rw [ByteArray.size_append, ByteArray.size_append, z]
    omega
theorem qd_four (a b c d x : Int) (ha : a = x / 16777216 % 256) (hb : b = x / 65536 % 256) (hc : c = x / 256 % 256) (hd : d = x % 256) (h0 : 0 ≤ x) (h1 : x < 4294967296) :
    uo (sl (uo (sl (uo (sl (uo (sl 0 8) (cv .u64 a)) 8) (cv .u64 b)) 8) (cv .u64 c)) 8) (cv .u64 d) = x := by
  have cu : ∀ y : Int, 0 ≤ y ∧ y < 256 → cv .u64 y = y := fun y hy => by
    rw [cv_u64]
    omega
  rw [cu a (by omega), cu b (by omega), cu c (by omega), cu d (by omega)]
  rw [uo_sl 0 a 8 256 rfl (by omega) (by omega) (by omega) (by omega)]
  rw [uo_sl _ b 8 256 rfl (by omega) (by omega) (by omega) (by omega)]
  rw [uo_sl _ c 8 256 rfl (by omega) (by omega) (by omega) (by omega)]
  rw [uo_sl _ d 8 256 rfl (by omega) (by omega) (by omega) (by omega)]
  omega
theorem q4_four (l : Int) (l0 : 0 ≤ l) (l1 : l < 4294967296) : q4 ((List.range 4).map (qf l)) 4 = l := by
  have e : ∀ j, j < 4 → tgi ((List.range 4).map (qf l)) j = l / 2 ^ (24 - 8 * (j : Int)).toNat % 256 := by
    intro j hj
    rw [map_tgi _ _ _ hj]
    unfold qf cutf qp
    rw [if_pos hj, sr_ed, cv_16, cv_u8]
    generalize l / 2 ^ (24 - 8 * (j : Int)).toNat = z
    omega
  have e0 := e 0 (by omega)
  have e1 := e 1 (by omega)
  have e2 := e 2 (by omega)
  have e3 := e 3 (by omega)
  have k0 : (2 : Int) ^ (24 - 8 * ((0 : Nat) : Int)).toNat = 16777216 := rfl
  have k1 : (2 : Int) ^ (24 - 8 * ((1 : Nat) : Int)).toNat = 65536 := rfl
  have k2 : (2 : Int) ^ (24 - 8 * ((2 : Nat) : Int)).toNat = 256 := rfl
  have k3 : (2 : Int) ^ (24 - 8 * ((3 : Nat) : Int)).toNat = 1 := rfl
  rw [k0] at e0
  rw [k1] at e1
  rw [k2] at e2
  rw [k3, Int.ediv_one] at e3
  unfold q4 q4 q4 q4 q4
  exact qd_four _ _ _ _ l e0 e1 e2 e3 l0 l1
theorem dcW (l : Int) (i : Nat) : nmb 10 255 (dcT (((qf l i).toNat : Nat) : Int)) = some (qf l i) ∧ dcT (((qf l i).toNat : Nat) : Int) ≠ ⟨#[]⟩ ∧ (46 : UInt8) ∉ (dcT (((qf l i).toNat : Nat) : Int)).data.toList ∧ (47 : UInt8) ∉ (dcT (((qf l i).toNat : Nat) : Int)).data.toList ∧ (58 : UInt8) ∉ (dcT (((qf l i).toNat : Nat) : Int)).data.toList := by
  have := qf_nn l i
  obtain ⟨a, b⟩ := dec_ok (qf l i).toNat (by omega)
  refine ⟨a.trans ?_, b⟩
  congr 1
  omega
theorem lk4_tx4 (l : Int) (l0 : 0 ≤ l) (l1 : l < 4294967296) : lk4 (tx4 l) = some l := by
  have n1 := nbs_jn 10 255 46 _ (qf l) 4 (fun i _ => (dcW l i).1) (fun i _ => (dcW l i).2.2.1) (fun i _ => (dcW l i).2.1)
  unfold lk4 tx4 ws10
  rw [n1]
  show (if _ then some _ else none) = _
  rw [if_pos (by simp), q4_four l l0 l1]
theorem tx4_ctn (l : Int) : ctn (tx4 l) ⟨#[58]⟩ = false := by
  refine ctn_no _ 58 ?_
  unfold tx4 ws10
  exact jn_mem 46 58 _ 4 (by decide) fun i _ => (dcW l i).2.2.2.2
theorem tx4_size (l : Int) : (tx4 l).size ≤ 39 := by
  have := jn_size 46 (fun i => dcT (((qf l i).toNat : Nat) : Int)) 3 3 fun i => dcT_size _
  unfold tx4 ws10
  exact Nat.le_trans this (by decide)
theorem tx_slash (v : Bool) (h l : Int) : (47 : UInt8) ∉ (txt v h l).data.toList := by
  unfold txt
  split
  · split
    · unfold tx6
      have hf := ggs_nn h l
      split
      · unfold ws16
        exact jn_mem 58 47 _ _ (by decide) fun i _ => (hxN _ hf i).2.2.1
      · have a : (47 : UInt8) ∉ (jn (ws16 (ggs h l) (uF (ggs h l))) ⟨#[58]⟩).data.toList := jn_mem 58 47 _ _ (by decide) fun i _ => (hxN _ hf i).2.2.1
        have b : (47 : UInt8) ∉ (jn (ws16 (fun i => ggs h l (uT (ggs h l) + i)) (8 - uT (ggs h l))) ⟨#[58]⟩).data.toList := jn_mem 58 47 _ _ (by decide) fun i _ => (hxN _ hf (uT (ggs h l) + i)).2.2.1
        intro hm
        simp only [ByteArray.data_append, Array.toList_append, List.mem_append] at hm
        rcases hm with (hm | hm) | hm
        · exact a hm
        · simp at hm
        · exact b hm
    · unfold tx4 ws10
      exact jn_mem 46 47 _ 4 (by decide) fun i _ => (dcW l i).2.2.2.1
  · simp
/-- Text is read as what it tells. -/
theorem read_txt (v : Bool) (h l : Int) (h0 : 0 ≤ h) (h1 : h < 18446744073709551616) (l0 : 0 ≤ l) (l1 : l < 18446744073709551616) (hm : mA v h l = true) : lI (txt v h l) = true ∧ lV (txt v h l) = v ∧ lH (txt v h l) = h ∧ lL (txt v h l) = l ∧ rdE (txt v h l) = 0 := by
  have key : lI (txt v h l) = true ∧ lV (txt v h l) = v ∧ lH (txt v h l) = h ∧ lL (txt v h l) = l := by
    unfold txt
    rw [if_pos hm]
    cases v
    · rw [if_neg (by decide)]
      unfold mA at hm
      simp only [Bool.false_or, Bool.and_eq_true, decide_eq_true_eq] at hm
      have z := tx4_size l
      have c := tx4_ctn l
      have hz : ¬ (39 : Int) < ((tx4 l).size : Int) := by omega
      unfold lI lV lH lL
      simp only [if_neg hz, c, lk4_tx4 l l0 hm.2]
      exact ⟨rfl, rfl, hm.1.symm, rfl⟩
    · rw [if_pos rfl]
      have z := tx6_size h l
      have c := tx6_ctn h l
      have hz : ¬ (39 : Int) < ((tx6 h l).size : Int) := by omega
      unfold lI lV lH lL
      simp only [if_neg hz, c, lk6_tx6 h l h0 h1 l0 l1]
      exact ⟨rfl, rfl, rfl, rfl⟩
  obtain ⟨a, b, c, d⟩ := key
  refine ⟨a, b, c, d, ?_⟩
  unfold rdE
  rw [if_pos a, b, c, d, if_pos rfl]
theorem mP_parts (v : Bool) (h l b : Int) (e : mP v h l b = true) : mA v h l = true := by
  unfold mP at e
  simp only [Bool.and_eq_true] at e
  exact e.1.1
theorem read_ptx (v : Bool) (h l b : Int) (h0 : 0 ≤ h) (h1 : h < 18446744073709551616) (l0 : 0 ≤ l) (l1 : l < 18446744073709551616) (b0 : 0 ≤ b) (b1 : b < 256) (hm : mP v h l b = true) : rpV (ptx v h l b) = v ∧ rpH (ptx v h l b) = h ∧ rpL (ptx v h l b) = l ∧ rpB (ptx v h l b) = b ∧ rpE (ptx v h l b) = 0 := by
  obtain ⟨_, a2, a3, a4, a5⟩ := read_txt v h l h0 h1 l0 l1 (mP_parts v h l b hm)
  have e : ptx v h l b = (txt v h l ++ (⟨#[47]⟩ : ByteArray)) ++ dcT b := if_pos hm
  obtain ⟨c1, c2⟩ := cut1 (txt v h l) (dcT b) 47 (tx_slash v h l)
  obtain ⟨n, rfl⟩ := Int.eq_ofNat_of_zero_le b0
  have nb := (dec_ok n (by omega)).1
  have k : rpV (ptx v h l n) = v ∧ rpH (ptx v h l n) = h ∧ rpL (ptx v h l n) = l ∧ rpB (ptx v h l n) = n := by
    unfold rpV rpH rpL rpB
    rw [e, c1, c2, a2, a3, a4, a5]
    refine ⟨rfl, rfl, rfl, ?_⟩
    show (nmb 10 255 (dcT (n : Int))).getD 0 = _
    rw [nb]
    rfl
  obtain ⟨k1, k2, k3, k4⟩ := k
  refine ⟨k1, k2, k3, k4, ?_⟩
  unfold rpE
  rw [k1, k2, k3, k4, if_pos rfl, e, c1, c2, a5, if_pos rfl]
  show (if (nmb 10 255 (dcT (n : Int))).isSome = true then _ else _) = _
  rw [nb]
  rfl
end Go.Proofs.YtndonmdgplojnaaGreatDoor
