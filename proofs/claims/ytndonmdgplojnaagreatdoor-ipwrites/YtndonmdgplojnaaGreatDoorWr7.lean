/- Part 7 of the walks and facts behind ipWrites_holds. -/
import Derived.Test.YtndonmdgplojnaaGreatDoorWr6
import Derived.HandedShaped
import Derived.Lay
import Derived.OpenShut
import Derived.ProofKit
import Derived.Shelf.Vars
import Derived.Test.YtndonmdgplojnaaGreatDoorRows
import Derived.Test.YtndonmdgplojnaaGreatDoorTie
/- Texts that are read as addresses and prefixes: likely, Read, ReadPrefix. -/
namespace Go.Proofs.YtndonmdgplojnaaGreatDoor
open Go.RowKit

section
variable {P : Program} {ops : Array Oper} {rest : List Oper} {o : Oper} {a : Act} {w : World} {c : Ctx} {L : List Blk} {Q : Exit → Act → World → Prop}
theorem pl_callL (M : Mem c L w) (hw : Region.wanted o (yielded ops a.tmps) = true) (d : Option Tmp) (hd : o.dst = d) (f : FuncId) (args : Array Value) (v : Nat → Nat → Value) (K : Nat → Obj → Prop) (hrun : ∀ w, (execOp a.eval o).run P w = .ok (.enter f args) w)
    (hc : ∀ w, Mem c L w → Calls P f args w fun e w' => ∃ g cap Z, e = .returned (v g cap) ∧ w.heap.size ≤ g ∧ w'.heap[g]? = some Z ∧ K cap Z ∧ Below w.heap.size w w') (h : ∀ g cap Z w', K cap Z → Mem c (L ++ [⟨g, Z⟩]) w' → PL P ops Q rest (a.put d (v g cap)) w') : PL P ops Q (o :: rest) a w :=
  pl_callq hw d hd f args hrun ((hc w M).mono fun _ w' ⟨g, cap, Z, he, h1, h2, h3, hb⟩ => ⟨v g cap, he, h g cap Z w' h3 (M.new g Z hb h2 h1)⟩)
end
def q4 (l : List Int) : Nat → Int
  | 0 => 0
  | j + 1 => uo (sl (q4 l j) 8) (cv .u64 (tgi l j))
def lk4 (s : ByteArray) : Option Int := match nbs 10 255 s ⟨#[46]⟩ with
  | some l => if l.length = 4 then some (q4 l 4) else none
  | none => none
/-- Numbers, laid over others. -/
def cpl (f : Nat → Int) (od : Nat) (l : List Int) : Nat → Int := fun i => if od ≤ i ∧ i < od + l.length then tgi l (i - od) else f i
theorem cpl_w16 (f : Nat → Int) (od : Nat) (l : List Int) (j : Nat) : (if od ≤ j ∧ j < od + l.length then w16 (tgi l) (j - od) else w16 f j) = w16 (cpl f od l) j := by
  unfold w16 cpl
  split <;> rfl
theorem cpl_nil (f : Nat → Int) (od : Nat) : cpl f od [] = f := by
  funext i
  exact if_neg (by simp)
def g6 (l1 l2 : List Int) : Nat → Int := cpl (cpl (fun _ => 0) 0 l1) (8 - l2.length) l2
def lk6 (s : ByteArray) : Option (Int × Int) := match nbs 16 65535 (cuA s ⟨#[58, 58]⟩) ⟨#[58]⟩, nbs 16 65535 (cuB s ⟨#[58, 58]⟩) ⟨#[58]⟩ with
  | some l1, some l2 => if 8 < l1.length + l2.length then none else some (adH (g6 l1 l2), adL (g6 l1 l2))
  | _, _ => none
theorem cuA_le (s sep : ByteArray) : (cuA s sep).size ≤ s.size := by
  unfold cuA Lib.cut
  split
  · show (List.take _ _).length ≤ s.data.toList.length
    rw [List.length_take]
    omega
  · exact Nat.le_refl _
theorem cuB_le (s sep : ByteArray) : (cuB s sep).size ≤ s.size := by
  unfold cuB Lib.cut
  split
  · show (List.drop _ _).length ≤ s.data.toList.length
    rw [List.length_drop]
    omega
  · exact Nat.zero_le _
set_option maxRecDepth 100000 in
set_option maxHeartbeats 4000000 in
set_option linter.unusedSimpArgs false in
theorem c_likely4 (s : ByteArray) (hs : s.size ≤ 1000) (w : World) (hL : Laid w)  :
    Calls Tryz.prog 70 #[.string s] w fun r w' => r = .returned (.tuple #[.agg (av 3 (ls [.bool false, .int .u64 0, .int .u64 ((lk4 s).getD 0)])), .bool ((lk4 s).isSome)]) ∧ Below w.heap.size w w' := by
  go_enter Tryz.func70, Tryz.ntmps70
  have M := Mem.start hL
  refine wp_seq ?_
  refine rg_lit ?_
  refine pl_new M (want_no rfl) (some 2) rfl (.cells (av 3 (ls [.bool false, .int .u64 0, .int .u64 0])) 24) (fun _ => by kernel_rfl) ?_
  intro g1 u1 M
  replace M : Mem ⟨w, []⟩ [⟨g1, .cells (av 3 (ls [.bool false, .int .u64 0, .int .u64 0])) 24⟩] u1 := M
  refine pl_val (want_no rfl) (some 3) rfl (.bool false) (fun _ => by kernel_rfl) ?_
  refine pl_nil ?_
  refine au_then ?_
  refine wp_seq ?_
  refine rg_lit ?_
  refine pl_val (want_no rfl) (some 10) rfl (.string s) (fun _ => by kernel_rfl) ?_
  rcases hN1 : nbs 10 255 s ⟨#[46]⟩ with _ | l1
  · skip
    refine pl_call M (want_no rfl) (some 11) rfl 89 #[.string s, .string ⟨#[46]⟩, .int .i64 10, .int .i64 8] (.tuple #[.slice none 0 0, .bool false]) (fun _ => by kernel_rfl) (fun w M => c_nums10N s ⟨#[46]⟩ (hs) (by decide) hN1 w M.laid) ?_
    intro u2 M
    refine pl_val (want_no rfl) (some 9) rfl (.tuple #[.slice none 0 0, .bool false]) (fun _ => by kernel_rfl) ?_
    refine pl_val (want_no rfl) (some 12) rfl (.slice none 0 0) (fun _ => by kernel_rfl) ?_
    refine pl_val (want_no rfl) (some 13) rfl (.bool false) (fun _ => by kernel_rfl) ?_
    refine pl_val (want_no rfl) (some 4) rfl (.slice none 0 0) (fun _ => by kernel_rfl) ?_
    refine pl_val (want_no rfl) (some 5) rfl (.bool false) (fun _ => by kernel_rfl) ?_
    refine pl_nil ?_
    refine au_then ?_
    refine wp_seq ?_
    refine wp_seq ?_
    refine rg_lit ?_
    refine pl_val (want_no rfl) (some 14) rfl (.bool false) (fun _ => by kernel_rfl) ?_
    refine pl_val (want_no rfl) (some 15) rfl (.bool true) (fun _ => by kernel_rfl) ?_
    refine pl_val (want_no rfl) (some 16) rfl (.bool true) (fun _ => by kernel_rfl) ?_
    refine pl_skip (want_off 2 false rfl 16 rfl (by kernel_rfl)) (some 17) rfl ?_
    refine pl_skip (want_off 2 false rfl 16 rfl (by kernel_rfl)) (some 18) rfl ?_
    refine pl_skip (want_off 2 false rfl 16 rfl (by kernel_rfl)) (some 19) rfl ?_
    refine pl_val (want_no rfl) (some 20) rfl (.bool true) (fun _ => by kernel_rfl) ?_
    refine pl_nil ?_
    refine au_then ?_
    refine wp_cond_true (by kernel_rfl) ?_
    refine wp_seq ?_
    refine rg_lit ?_
    refine pl_val (want_no rfl) (some 21) rfl (.agg (av 3 (ls [.bool false, .int .u64 0, .int .u64 0]))) (fun _ => by kernel_rfl) ?_
    refine pl_put M (want_no rfl) rfl 24 _ _ rfl 0 g1 0 (by kernel_rfl) 3 24 (ls [.bool false, .int .u64 0, .int .u64 0]) rfl 3 (ls [.bool false, .int .u64 0, .int .u64 0]) (ls [.bool false, .int .u64 0, .int .u64 0]) (by kernel_rfl) inz24 (by decide) (one_ls _ rfl) (fun j hj => by rw [if_pos (by omega), Nat.sub_zero]) ?_
    intro u3 M
    replace M : Mem ⟨w, []⟩ [⟨g1, .cells (av 3 (ls [.bool false, .int .u64 0, .int .u64 0])) 24⟩] u3 := M
    refine pl_val (want_no rfl) (some 3) rfl (.bool false) (fun _ => by kernel_rfl) ?_
    refine pl_nil ?_
    refine au_then ?_
    refine wp_ret ?_
    refine au_then_ret ?_
    have e0 : ((lk4 s).getD 0) = 0 := by rw [(show lk4 s = none by unfold lk4; rw [hN1])]; rfl
    have e1 : (lk4 s).isSome = false := by rw [(show lk4 s = none by unfold lk4; rw [hN1])]; rfl
    exact bodyPost_ret (v := .tuple #[.agg (av 3 (ls [.bool false, .int .u64 0, .int .u64 0])), .bool false]) (results_cell_tmp Tryz.results70 _ _ g1 24 (av 3 (ls [.bool false, .int .u64 0, .int .u64 0])) (0, 0) _ _ (by kernel_rfl) (by kernel_rfl) (M.get 0 rfl) Tryz.underlying24 rfl (by rw [av_size]; exact inz24)) (by kernel_rfl) ⟨by rw [e0, e1], below_grown M.old⟩
  · skip
    by_cases he1 : l1 = []
    · skip
      subst he1
      refine pl_call M (want_no rfl) (some 11) rfl 89 #[.string s, .string ⟨#[46]⟩, .int .i64 10, .int .i64 8] (.tuple #[.slice none 0 0, .bool true]) (fun _ => by kernel_rfl) (fun w M => c_nums10E s ⟨#[46]⟩ (hs) (by decide) hN1 w M.laid) ?_
      intro u2 M
      refine pl_val (want_no rfl) (some 9) rfl (.tuple #[.slice none 0 0, .bool true]) (fun _ => by kernel_rfl) ?_
      refine pl_val (want_no rfl) (some 12) rfl (.slice none 0 0) (fun _ => by kernel_rfl) ?_
      refine pl_val (want_no rfl) (some 13) rfl (.bool true) (fun _ => by kernel_rfl) ?_
      refine pl_val (want_no rfl) (some 4) rfl (.slice none 0 0) (fun _ => by kernel_rfl) ?_
      refine pl_val (want_no rfl) (some 5) rfl (.bool true) (fun _ => by kernel_rfl) ?_
      refine pl_nil ?_
      refine au_then ?_
      refine wp_seq ?_
      refine wp_seq ?_
      refine rg_lit ?_
      refine pl_val (want_no rfl) (some 14) rfl (.bool true) (fun _ => by kernel_rfl) ?_
      refine pl_val (want_no rfl) (some 15) rfl (.bool false) (fun _ => by kernel_rfl) ?_
      refine pl_val (want_no rfl) (some 16) rfl (.bool false) (fun _ => by kernel_rfl) ?_
      refine pl_val (want_on 2 false rfl 16 rfl (by kernel_rfl)) (some 17) rfl (.slice none 0 0) (fun _ => by kernel_rfl) ?_
      refine pl_val (want_on 2 false rfl 16 rfl (by kernel_rfl)) (some 18) rfl (.int .i64 0) (fun _ => by kernel_rfl) ?_
      refine pl_val (want_on 2 false rfl 16 rfl (by kernel_rfl)) (some 19) rfl (.bool true) (fun _ => by kernel_rfl) ?_
      refine pl_val (want_no rfl) (some 20) rfl (.bool true) (fun _ => by kernel_rfl) ?_
      refine pl_nil ?_
      refine au_then ?_
      refine wp_cond_true (by kernel_rfl) ?_
      refine wp_seq ?_
      refine rg_lit ?_
      refine pl_val (want_no rfl) (some 21) rfl (.agg (av 3 (ls [.bool false, .int .u64 0, .int .u64 0]))) (fun _ => by kernel_rfl) ?_
      refine pl_put M (want_no rfl) rfl 24 _ _ rfl 0 g1 0 (by kernel_rfl) 3 24 (ls [.bool false, .int .u64 0, .int .u64 0]) rfl 3 (ls [.bool false, .int .u64 0, .int .u64 0]) (ls [.bool false, .int .u64 0, .int .u64 0]) (by kernel_rfl) inz24 (by decide) (one_ls _ rfl) (fun j hj => by rw [if_pos (by omega), Nat.sub_zero]) ?_
      intro u3 M
      replace M : Mem ⟨w, []⟩ [⟨g1, .cells (av 3 (ls [.bool false, .int .u64 0, .int .u64 0])) 24⟩] u3 := M
      refine pl_val (want_no rfl) (some 3) rfl (.bool false) (fun _ => by kernel_rfl) ?_
      refine pl_nil ?_
      refine au_then ?_
      refine wp_ret ?_
      refine au_then_ret ?_
      have e0 : ((lk4 s).getD 0) = 0 := by rw [(show lk4 s = none by unfold lk4; rw [hN1]; rfl)]; rfl
      have e1 : (lk4 s).isSome = false := by rw [(show lk4 s = none by unfold lk4; rw [hN1]; rfl)]; rfl
      exact bodyPost_ret (v := .tuple #[.agg (av 3 (ls [.bool false, .int .u64 0, .int .u64 0])), .bool false]) (results_cell_tmp Tryz.results70 _ _ g1 24 (av 3 (ls [.bool false, .int .u64 0, .int .u64 0])) (0, 0) _ _ (by kernel_rfl) (by kernel_rfl) (M.get 0 rfl) Tryz.underlying24 rfl (by rw [av_size]; exact inz24)) (by kernel_rfl) ⟨by rw [e0, e1], below_grown M.old⟩
    · skip
      refine pl_callL M (want_no rfl) (some 11) rfl 89 #[.string s, .string ⟨#[46]⟩, .int .i64 10, .int .i64 8] (fun g cap => .tuple #[.slice (some ⟨g, 0, none⟩) l1.length cap, .bool true]) (fun cap Z => SB Z cap (v16 l1)) (fun _ => by kernel_rfl) (fun w M => c_nums10L s ⟨#[46]⟩ (hs) (by decide) l1 he1 hN1 w M.laid) ?_
      intro gl1 cp1 Z1 u2 hZ1 M
      replace M : Mem ⟨w, []⟩ [⟨g1, .cells (av 3 (ls [.bool false, .int .u64 0, .int .u64 0])) 24⟩, ⟨gl1, Z1⟩] u2 := M
      refine pl_val (want_no rfl) (some 9) rfl (.tuple #[.slice (some ⟨gl1, 0, none⟩) l1.length cp1, .bool true]) (fun _ => by kernel_rfl) ?_
      refine pl_val (want_no rfl) (some 12) rfl (.slice (some ⟨gl1, 0, none⟩) l1.length cp1) (fun _ => by kernel_rfl) ?_
      refine pl_val (want_no rfl) (some 13) rfl (.bool true) (fun _ => by kernel_rfl) ?_
      refine pl_val (want_no rfl) (some 4) rfl (.slice (some ⟨gl1, 0, none⟩) l1.length cp1) (fun _ => by kernel_rfl) ?_
      refine pl_val (want_no rfl) (some 5) rfl (.bool true) (fun _ => by kernel_rfl) ?_
      refine pl_nil ?_
      refine au_then ?_
      refine wp_seq ?_
      refine wp_seq ?_
      refine rg_lit ?_
      refine pl_val (want_no rfl) (some 14) rfl (.bool true) (fun _ => by kernel_rfl) ?_
      refine pl_val (want_no rfl) (some 15) rfl (.bool false) (fun _ => by kernel_rfl) ?_
      refine pl_val (want_no rfl) (some 16) rfl (.bool false) (fun _ => by kernel_rfl) ?_
      refine pl_val (want_on 2 false rfl 16 rfl (by kernel_rfl)) (some 17) rfl (.slice (some ⟨gl1, 0, none⟩) l1.length cp1) (fun _ => by kernel_rfl) ?_
      refine pl_val (want_on 2 false rfl 16 rfl (by kernel_rfl)) (some 18) rfl (.int .i64 ((l1.length : Nat) : Int)) (fun _ => by kernel_rfl) ?_
      by_cases c2 : ((l1.length : Nat) : Int) = 4
      · skip
        refine pl_val (want_on 2 false rfl 16 rfl (by kernel_rfl)) (some 19) rfl (.bool false) (fun w => Eq.trans (b := .ok (.value (.bool (!(decide (((l1.length : Nat) : Int) = 4))))) w) (by kernel_rfl) (by rw [decide_eq_true (c2)]; rfl)) ?_
        refine pl_val (want_no rfl) (some 20) rfl (.bool false) (fun _ => by kernel_rfl) ?_
        refine pl_nil ?_
        refine au_then ?_
        refine wp_cond_false (by kernel_rfl) ?_
        refine wp_skip ?_
        refine au_then ?_
        refine wp_seq ?_
        refine rg_lit ?_
        refine pl_new M (want_no rfl) (some 6) rfl (.cells (av 3 (ls [.bool false, .int .u64 0, .int .u64 0])) 24) (fun _ => by kernel_rfl) ?_
        intro g2 u3 M
        replace M : Mem ⟨w, []⟩ [⟨g1, .cells (av 3 (ls [.bool false, .int .u64 0, .int .u64 0])) 24⟩, ⟨gl1, Z1⟩, ⟨g2, .cells (av 3 (ls [.bool false, .int .u64 0, .int .u64 0])) 24⟩] u3 := M
        refine pl_nil ?_
        refine au_then ?_
        refine wp_seq ?_
        refine wp_seq ?_
        refine rg_lit ?_
        refine pl_val (want_no rfl) (some 22) rfl (.slice (some ⟨gl1, 0, none⟩) l1.length cp1) (fun _ => by kernel_rfl) ?_
        refine pl_val (want_no rfl) (some 23) rfl (.int .i64 ((l1.length : Nat) : Int)) (fun _ => by kernel_rfl) ?_
        refine pl_val (want_no rfl) (some 24) rfl (.int .i64 0) (fun _ => by kernel_rfl) ?_
        refine pl_nil ?_
        refine au_then ?_
        refine wp_block ?_
        refine au_loop (fun j a w' => ∃ v1 : Nat → Value, a = ⟨#[.string s, undef, .pointer (some ⟨g1, 0, none⟩), .bool false, .slice (some ⟨gl1, 0, none⟩) l1.length cp1, .bool true, .pointer (some ⟨g2, 0, none⟩), undef, v1 8, .tuple #[.slice (some ⟨gl1, 0, none⟩) l1.length cp1, .bool true], .string s, .tuple #[.slice (some ⟨gl1, 0, none⟩) l1.length cp1, .bool true], .slice (some ⟨gl1, 0, none⟩) l1.length cp1, .bool true, .bool true, .bool false, .bool false, .slice (some ⟨gl1, 0, none⟩) l1.length cp1, .int .i64 ((l1.length : Nat) : Int), .bool false, .bool false, undef, .slice (some ⟨gl1, 0, none⟩) l1.length cp1, .int .i64 ((l1.length : Nat) : Int), .int .i64 (j : Int), v1 25, v1 26, v1 27, v1 28, v1 29, v1 30, v1 31, v1 32, v1 33, v1 34, v1 35, undef], []⟩ ∧ Mem ⟨w, []⟩ [⟨g1, .cells (av 3 (ls [.bool false, .int .u64 0, .int .u64 0])) 24⟩, ⟨gl1, Z1⟩, ⟨g2, .cells (av 3 (ls [.bool false, .int .u64 0, .int .u64 (q4 l1 j)])) 24⟩] w') 4 ⟨fun k_ => ([undef, undef, undef, undef, undef, undef, undef, undef, undef, undef, undef, undef, undef, undef, undef, undef, undef, undef, undef, undef, undef, undef, undef, undef, undef, undef, undef, undef] : List Value).getD (k_ - 8) undef, by kernel_rfl, M⟩ ?_ ?_
        · intro j a u0 hj hI
          obtain ⟨v1, rfl, M⟩ := hI
          refine wp_seq ?_
          refine rg_lit ?_
          refine pl_val (want_no rfl) (some 25) rfl (.bool true) (fun w => Eq.trans (b := .ok (.value (.bool (decide ((j : Int) < ((l1.length : Nat) : Int))))) w) (by kernel_rfl) (by rw [decide_eq_true (by omega)])) ?_
          refine pl_nil ?_
          refine au_then ?_
          refine wp_seq ?_
          refine wp_cond_true (by kernel_rfl) ?_
          refine wp_skip ?_
          refine au_then ?_
          refine wp_seq ?_
          refine wp_block ?_
          refine wp_seq ?_
          refine rg_lit ?_
          refine pl_val (want_no rfl) (some 26) rfl (.pointer (some ⟨gl1, j, none⟩)) (run_ix0 99 32 Tryz.underlying99 inz32 _ _ rfl gl1 l1.length cp1 (by kernel_rfl) .i64 j (by kernel_rfl) (by omega)) ?_
          refine pl_cell M (want_no rfl) (some 27) rfl 32 _ rfl gl1 j (by kernel_rfl) (.int .u16 (tgi l1 j)) (fun _ => by kernel_rfl) (fun w M => hZ1.cell (M.get 1 rfl) (v16_at _ _ (by omega))) ?_
          refine pl_val (want_no rfl) (some 8) rfl (.int .u16 (tgi l1 j)) (fun _ => by kernel_rfl) ?_
          refine pl_nil ?_
          refine au_then ?_
          refine rg_lit ?_
          refine pl_val (want_no rfl) (some 28) rfl (.pointer (some ⟨g2, 2, none⟩)) (fun _ => by kernel_rfl) ?_
          refine pl_cell M (want_no rfl) (some 29) rfl 22 _ rfl g2 2 (by kernel_rfl) (.int .u64 (q4 l1 j)) (fun _ => by kernel_rfl) (fun w M => M.cell 2 rfl (by decide) rfl) ?_
          refine pl_val (want_no rfl) (some 30) rfl (.int .u64 (sl (q4 l1 j) 8)) (fun _ => by kernel_rfl) ?_
          refine pl_val (want_no rfl) (some 31) rfl (.int .u16 (tgi l1 j)) (fun _ => by kernel_rfl) ?_
          refine pl_val (want_no rfl) (some 32) rfl (.int .u64 (cv .u64 (tgi l1 j))) (fun _ => by kernel_rfl) ?_
          refine pl_val (want_no rfl) (some 33) rfl (.int .u64 (uo (sl (q4 l1 j) 8) (cv .u64 (tgi l1 j)))) (fun _ => by kernel_rfl) ?_
          refine pl_val (want_no rfl) (some 34) rfl (.pointer (some ⟨g2, 2, none⟩)) (fun _ => by kernel_rfl) ?_
          refine pl_put1 M (want_no rfl) rfl 22 _ _ rfl 2 g2 2 (by kernel_rfl) 3 24 (ls [.bool false, .int .u64 0, .int .u64 (q4 l1 j)]) rfl (.int .u64 (uo (sl (q4 l1 j) 8) (cv .u64 (tgi l1 j)))) (ls [.bool false, .int .u64 0, .int .u64 (uo (sl (q4 l1 j) 8) (cv .u64 (tgi l1 j)))]) (by kernel_rfl) inz22 (by decide) rfl rfl (put_ls _ 2 _ _ rfl) ?_
          intro u4 M
          replace M : Mem ⟨w, []⟩ [⟨g1, .cells (av 3 (ls [.bool false, .int .u64 0, .int .u64 0])) 24⟩, ⟨gl1, Z1⟩, ⟨g2, .cells (av 3 (ls [.bool false, .int .u64 0, .int .u64 (uo (sl (q4 l1 j) 8) (cv .u64 (tgi l1 j)))])) 24⟩] u4 := M
          refine pl_nil ?_
          refine au_block ?_
          refine au_then ?_
          refine rg_lit ?_
          refine pl_val (want_no rfl) (some 35) rfl (.int .i64 ((j + 1 : Nat) : Int)) (fun w => Eq.trans (b := .ok (.value (.int .i64 (IntKind.wrap .i64 ((j : Int) + 1)))) w) (by kernel_rfl) (by rw [wrap64 (by omega) (by omega)]; congr 3)) ?_
          refine pl_val (want_no rfl) (some 24) rfl (.int .i64 ((j + 1 : Nat) : Int)) (fun _ => by kernel_rfl) ?_
          refine pl_nil ?_
          refine au_then ?_
          exact ⟨fun k_ => ([.int .u16 (tgi l1 j), undef, undef, undef, undef, undef, undef, undef, undef, undef, undef, undef, undef, undef, undef, undef, undef, .bool true, .pointer (some ⟨gl1, j, none⟩), .int .u16 (tgi l1 j), .pointer (some ⟨g2, 2, none⟩), .int .u64 (q4 l1 j), .int .u64 (sl (q4 l1 j) 8), .int .u16 (tgi l1 j), .int .u64 (cv .u64 (tgi l1 j)), .int .u64 (uo (sl (q4 l1 j) 8) (cv .u64 (tgi l1 j))), .pointer (some ⟨g2, 2, none⟩), .int .i64 ((j + 1 : Nat) : Int)] : List Value).getD (k_ - 8) undef, by kernel_rfl, M⟩
        · intro a u0 hI
          obtain ⟨v1, rfl, M⟩ := hI
          refine wp_seq ?_
          refine rg_lit ?_
          refine pl_val (want_no rfl) (some 25) rfl (.bool false) (fun w => Eq.trans (b := .ok (.value (.bool (decide ((4 : Int) < ((l1.length : Nat) : Int))))) w) (by kernel_rfl) (by rw [decide_eq_false (by omega)])) ?_
          refine pl_nil ?_
          refine au_then ?_
          refine wp_seq ?_
          refine wp_cond_false (by kernel_rfl) ?_
          refine wp_exit ?_
          refine au_then_exit ?_
          refine au_then_exit ?_
          refine au_block_exit ?_
          refine au_then ?_
          refine wp_seq ?_
          refine rg_lit ?_
          refine pl_load M (want_no rfl) (some 36) rfl 24 _ rfl 2 g2 0 (by kernel_rfl) 3 24 (ls [.bool false, .int .u64 0, .int .u64 (q4 l1 4)]) rfl 3 (ls [.bool false, .int .u64 0, .int .u64 (q4 l1 4)]) (fun j _ => by rw [Nat.zero_add]) (by decide) _ Tryz.underlying24 rfl inz24 ?_
          refine pl_put M (want_no rfl) rfl 24 _ _ rfl 0 g1 0 (by kernel_rfl) 3 24 (ls [.bool false, .int .u64 0, .int .u64 0]) rfl 3 (ls [.bool false, .int .u64 0, .int .u64 (q4 l1 4)]) (ls [.bool false, .int .u64 0, .int .u64 (q4 l1 4)]) (by kernel_rfl) inz24 (by decide) (one_ls _ rfl) (fun j hj => by rw [if_pos (by omega), Nat.sub_zero]) ?_
          intro u4 M
          replace M : Mem ⟨w, []⟩ [⟨g1, .cells (av 3 (ls [.bool false, .int .u64 0, .int .u64 (q4 l1 4)])) 24⟩, ⟨gl1, Z1⟩, ⟨g2, .cells (av 3 (ls [.bool false, .int .u64 0, .int .u64 (q4 l1 4)])) 24⟩] u4 := M
          refine pl_val (want_no rfl) (some 3) rfl (.bool true) (fun _ => by kernel_rfl) ?_
          refine pl_nil ?_
          refine au_then ?_
          refine wp_ret ?_
          have e0 : ((lk4 s).getD 0) = (q4 l1 4) := by rw [(show lk4 s = some (q4 l1 4) by unfold lk4; rw [hN1]; exact if_pos (by omega))]; rfl
          have e1 : (lk4 s).isSome = true := by rw [(show lk4 s = some (q4 l1 4) by unfold lk4; rw [hN1]; exact if_pos (by omega))]; rfl
          exact bodyPost_ret (v := .tuple #[.agg (av 3 (ls [.bool false, .int .u64 0, .int .u64 (q4 l1 4)])), .bool true]) (results_cell_tmp Tryz.results70 _ _ g1 24 (av 3 (ls [.bool false, .int .u64 0, .int .u64 (q4 l1 4)])) (0, 0) _ _ (by kernel_rfl) (by kernel_rfl) (M.get 0 rfl) Tryz.underlying24 rfl (by rw [av_size]; exact inz24)) (by kernel_rfl) ⟨by rw [e0, e1], below_grown M.old⟩
      · skip
        refine pl_val (want_on 2 false rfl 16 rfl (by kernel_rfl)) (some 19) rfl (.bool true) (fun w => Eq.trans (b := .ok (.value (.bool (!(decide (((l1.length : Nat) : Int) = 4))))) w) (by kernel_rfl) (by rw [decide_eq_false (c2)]; rfl)) ?_
        refine pl_val (want_no rfl) (some 20) rfl (.bool true) (fun _ => by kernel_rfl) ?_
        refine pl_nil ?_
        refine au_then ?_
        refine wp_cond_true (by kernel_rfl) ?_
        refine wp_seq ?_
        refine rg_lit ?_
        refine pl_val (want_no rfl) (some 21) rfl (.agg (av 3 (ls [.bool false, .int .u64 0, .int .u64 0]))) (fun _ => by kernel_rfl) ?_
        refine pl_put M (want_no rfl) rfl 24 _ _ rfl 0 g1 0 (by kernel_rfl) 3 24 (ls [.bool false, .int .u64 0, .int .u64 0]) rfl 3 (ls [.bool false, .int .u64 0, .int .u64 0]) (ls [.bool false, .int .u64 0, .int .u64 0]) (by kernel_rfl) inz24 (by decide) (one_ls _ rfl) (fun j hj => by rw [if_pos (by omega), Nat.sub_zero]) ?_
        intro u3 M
        replace M : Mem ⟨w, []⟩ [⟨g1, .cells (av 3 (ls [.bool false, .int .u64 0, .int .u64 0])) 24⟩, ⟨gl1, Z1⟩] u3 := M
        refine pl_val (want_no rfl) (some 3) rfl (.bool false) (fun _ => by kernel_rfl) ?_
        refine pl_nil ?_
        refine au_then ?_
        refine wp_ret ?_
        refine au_then_ret ?_
        have e0 : ((lk4 s).getD 0) = 0 := by rw [(show lk4 s = none by unfold lk4; rw [hN1]; exact if_neg (by omega))]; rfl
        have e1 : (lk4 s).isSome = false := by rw [(show lk4 s = none by unfold lk4; rw [hN1]; exact if_neg (by omega))]; rfl
        exact bodyPost_ret (v := .tuple #[.agg (av 3 (ls [.bool false, .int .u64 0, .int .u64 0])), .bool false]) (results_cell_tmp Tryz.results70 _ _ g1 24 (av 3 (ls [.bool false, .int .u64 0, .int .u64 0])) (0, 0) _ _ (by kernel_rfl) (by kernel_rfl) (M.get 0 rfl) Tryz.underlying24 rfl (by rw [av_size]; exact inz24)) (by kernel_rfl) ⟨by rw [e0, e1], below_grown M.old⟩

theorem nbs_len {b m : Int} {s sep : ByteArray} {l : List Int} (hs : s.size ≤ 1000) (h1 : 1 ≤ sep.size) (h : nbs b m s sep = some l) : l.length ≤ 1001 := by
  unfold nbs at h
  split at h
  · cases h
    decide
  · have := nl_len h
    have := spl_le s sep h1
    omega
set_option maxRecDepth 100000 in
set_option maxHeartbeats 4000000 in
set_option linter.unusedSimpArgs false in
theorem c_likely6 (s : ByteArray) (hs : s.size ≤ 1000) (w : World) (hL : Laid w)  :
    Calls Tryz.prog 69 #[.string s] w fun r w' => r = .returned (.tuple #[.agg (av 3 (ls [.bool ((lk6 s).isSome), .int .u64 ((lk6 s).getD (0, 0)).1, .int .u64 ((lk6 s).getD (0, 0)).2])), .bool ((lk6 s).isSome)]) ∧ Below w.heap.size w w' := by
  go_enter Tryz.func69, Tryz.ntmps69
  have M := Mem.start hL
  have hl1 : ∀ l, nbs 16 65535 (cuA s ⟨#[58, 58]⟩) ⟨#[58]⟩ = some l → l.length ≤ 1001 := fun l h => nbs_len (by have := cuA_le s ⟨#[58, 58]⟩; omega) (by decide) h
  have hl2 : ∀ l, nbs 16 65535 (cuB s ⟨#[58, 58]⟩) ⟨#[58]⟩ = some l → l.length ≤ 1001 := fun l h => nbs_len (by have := cuB_le s ⟨#[58, 58]⟩; omega) (by decide) h
  refine wp_seq ?_
  refine rg_lit ?_
  refine pl_new M (want_no rfl) (some 2) rfl (.cells (av 3 (ls [.bool false, .int .u64 0, .int .u64 0])) 24) (fun _ => by kernel_rfl) ?_
  intro g1 u1 M
  replace M : Mem ⟨w, []⟩ [⟨g1, .cells (av 3 (ls [.bool false, .int .u64 0, .int .u64 0])) 24⟩] u1 := M
  refine pl_val (want_no rfl) (some 3) rfl (.bool false) (fun _ => by kernel_rfl) ?_
  refine pl_nil ?_
  refine au_then ?_
  refine wp_seq ?_
  refine rg_lit ?_
  refine pl_val (want_no rfl) (some 13) rfl (.string s) (fun _ => by kernel_rfl) ?_
  refine pl_call M (want_no rfl) (some 14) rfl 46 #[.string s, .string ⟨#[58, 58]⟩] (.tuple #[.string (cuA s ⟨#[58, 58]⟩), .string (cuB s ⟨#[58, 58]⟩), .bool (cuC s ⟨#[58, 58]⟩)]) (fun _ => by kernel_rfl) (fun w M => c_Cut s ⟨#[58, 58]⟩ (by omega) w M.laid) ?_
  intro u2 M
  refine pl_val (want_no rfl) (some 12) rfl (.tuple #[.string (cuA s ⟨#[58, 58]⟩), .string (cuB s ⟨#[58, 58]⟩), .bool (cuC s ⟨#[58, 58]⟩)]) (fun _ => by kernel_rfl) ?_
  refine pl_val (want_no rfl) (some 15) rfl (.string (cuA s ⟨#[58, 58]⟩)) (fun _ => by kernel_rfl) ?_
  refine pl_val (want_no rfl) (some 16) rfl (.string (cuB s ⟨#[58, 58]⟩)) (fun _ => by kernel_rfl) ?_
  refine pl_val (want_no rfl) (some 17) rfl (.bool (cuC s ⟨#[58, 58]⟩)) (fun _ => by kernel_rfl) ?_
  refine pl_val (want_no rfl) (some 4) rfl (.string (cuA s ⟨#[58, 58]⟩)) (fun _ => by kernel_rfl) ?_
  refine pl_val (want_no rfl) (some 5) rfl (.string (cuB s ⟨#[58, 58]⟩)) (fun _ => by kernel_rfl) ?_
  refine pl_val (want_no rfl) (some 6) rfl (.bool (cuC s ⟨#[58, 58]⟩)) (fun _ => by kernel_rfl) ?_
  refine pl_nil ?_
  refine au_then ?_
  refine wp_seq ?_
  refine rg_lit ?_
  refine pl_val (want_no rfl) (some 19) rfl (.string (cuA s ⟨#[58, 58]⟩)) (fun _ => by kernel_rfl) ?_
  rcases hN1 : nbs 16 65535 (cuA s ⟨#[58, 58]⟩) ⟨#[58]⟩ with _ | l1
  · skip
    refine pl_call M (want_no rfl) (some 20) rfl 89 #[.string (cuA s ⟨#[58, 58]⟩), .string ⟨#[58]⟩, .int .i64 16, .int .i64 16] (.tuple #[.slice none 0 0, .bool false]) (fun _ => by kernel_rfl) (fun w M => c_nums16N (cuA s ⟨#[58, 58]⟩) ⟨#[58]⟩ (by have := cuA_le s ⟨#[58, 58]⟩; omega) (by decide) hN1 w M.laid) ?_
    intro u3 M
    refine pl_val (want_no rfl) (some 18) rfl (.tuple #[.slice none 0 0, .bool false]) (fun _ => by kernel_rfl) ?_
    refine pl_val (want_no rfl) (some 21) rfl (.slice none 0 0) (fun _ => by kernel_rfl) ?_
    refine pl_val (want_no rfl) (some 22) rfl (.bool false) (fun _ => by kernel_rfl) ?_
    refine pl_val (want_no rfl) (some 7) rfl (.slice none 0 0) (fun _ => by kernel_rfl) ?_
    refine pl_val (want_no rfl) (some 8) rfl (.bool false) (fun _ => by kernel_rfl) ?_
    refine pl_nil ?_
    refine au_then ?_
    refine wp_seq ?_
    refine rg_lit ?_
    refine pl_val (want_no rfl) (some 24) rfl (.string (cuB s ⟨#[58, 58]⟩)) (fun _ => by kernel_rfl) ?_
    rcases hN2 : nbs 16 65535 (cuB s ⟨#[58, 58]⟩) ⟨#[58]⟩ with _ | l2
    · skip
      refine pl_call M (want_no rfl) (some 25) rfl 89 #[.string (cuB s ⟨#[58, 58]⟩), .string ⟨#[58]⟩, .int .i64 16, .int .i64 16] (.tuple #[.slice none 0 0, .bool false]) (fun _ => by kernel_rfl) (fun w M => c_nums16N (cuB s ⟨#[58, 58]⟩) ⟨#[58]⟩ (by have := cuB_le s ⟨#[58, 58]⟩; omega) (by decide) hN2 w M.laid) ?_
      intro u4 M
      refine pl_val (want_no rfl) (some 23) rfl (.tuple #[.slice none 0 0, .bool false]) (fun _ => by kernel_rfl) ?_
      refine pl_val (want_no rfl) (some 26) rfl (.slice none 0 0) (fun _ => by kernel_rfl) ?_
      refine pl_val (want_no rfl) (some 27) rfl (.bool false) (fun _ => by kernel_rfl) ?_
      refine pl_val (want_no rfl) (some 9) rfl (.slice none 0 0) (fun _ => by kernel_rfl) ?_
      refine pl_val (want_no rfl) (some 10) rfl (.bool false) (fun _ => by kernel_rfl) ?_
      refine pl_nil ?_
      refine au_then ?_
      refine wp_seq ?_
      refine rg_lit ?_
      refine pl_new M (want_no rfl) (some 11) rfl (.cells (av 8 (w16 (fun _ => 0))) 94) (fun _ => by kernel_rfl) ?_
      intro g2 u5 M
      replace M : Mem ⟨w, []⟩ [⟨g1, .cells (av 3 (ls [.bool false, .int .u64 0, .int .u64 0])) 24⟩, ⟨g2, .cells (av 8 (w16 (fun _ => 0))) 94⟩] u5 := M
      refine pl_nil ?_
      refine au_then ?_
      refine wp_seq ?_
      refine wp_seq ?_
      refine rg_lit ?_
      refine pl_val (want_no rfl) (some 28) rfl (.bool false) (fun _ => by kernel_rfl) ?_
      refine pl_val (want_no rfl) (some 29) rfl (.bool true) (fun _ => by kernel_rfl) ?_
      refine pl_val (want_no rfl) (some 30) rfl (.bool true) (fun _ => by kernel_rfl) ?_
      refine pl_skip (want_off 2 false rfl 30 rfl (by kernel_rfl)) (some 31) rfl ?_
      refine pl_skip (want_off 2 false rfl 30 rfl (by kernel_rfl)) (some 32) rfl ?_
      refine pl_val (want_no rfl) (some 33) rfl (.bool true) (fun _ => by kernel_rfl) ?_
      refine pl_val (want_no rfl) (some 34) rfl (.bool true) (fun _ => by kernel_rfl) ?_
      refine pl_skip (want_off 6 false rfl 34 rfl (by kernel_rfl)) (some 35) rfl ?_
      refine pl_skip (want_off 6 false rfl 34 rfl (by kernel_rfl)) (some 36) rfl ?_
      refine pl_skip (want_off 6 false rfl 34 rfl (by kernel_rfl)) (some 37) rfl ?_
      refine pl_skip (want_off 6 false rfl 34 rfl (by kernel_rfl)) (some 38) rfl ?_
      refine pl_skip (want_off 6 false rfl 34 rfl (by kernel_rfl)) (some 39) rfl ?_
      refine pl_skip (want_off 6 false rfl 34 rfl (by kernel_rfl)) (some 40) rfl ?_
      refine pl_val (want_no rfl) (some 41) rfl (.bool true) (fun _ => by kernel_rfl) ?_
      refine pl_nil ?_
      refine au_then ?_
      refine wp_cond_true (by kernel_rfl) ?_
      refine wp_seq ?_
      refine rg_lit ?_
      refine pl_val (want_no rfl) (some 42) rfl (.agg (av 3 (ls [.bool false, .int .u64 0, .int .u64 0]))) (fun _ => by kernel_rfl) ?_
      refine pl_put M (want_no rfl) rfl 24 _ _ rfl 0 g1 0 (by kernel_rfl) 3 24 (ls [.bool false, .int .u64 0, .int .u64 0]) rfl 3 (ls [.bool false, .int .u64 0, .int .u64 0]) (ls [.bool false, .int .u64 0, .int .u64 0]) (by kernel_rfl) inz24 (by decide) (one_ls _ rfl) (fun j hj => by rw [if_pos (by omega), Nat.sub_zero]) ?_
      intro u6 M
      replace M : Mem ⟨w, []⟩ [⟨g1, .cells (av 3 (ls [.bool false, .int .u64 0, .int .u64 0])) 24⟩, ⟨g2, .cells (av 8 (w16 (fun _ => 0))) 94⟩] u6 := M
      refine pl_val (want_no rfl) (some 3) rfl (.bool false) (fun _ => by kernel_rfl) ?_
      refine pl_nil ?_
      refine au_then ?_
      refine wp_ret ?_
      refine au_then_ret ?_
      have e0 : (lk6 s).isSome = false := by rw [(show lk6 s = none by unfold lk6; rw [hN1, hN2])]; rfl
      have e1 : ((lk6 s).getD (0, 0)).1 = 0 := by rw [(show lk6 s = none by unfold lk6; rw [hN1, hN2])]; rfl
      have e2 : ((lk6 s).getD (0, 0)).2 = 0 := by rw [(show lk6 s = none by unfold lk6; rw [hN1, hN2])]; rfl
      exact bodyPost_ret (v := .tuple #[.agg (av 3 (ls [.bool false, .int .u64 0, .int .u64 0])), .bool false]) (results_cell_tmp Tryz.results69 _ _ g1 24 (av 3 (ls [.bool false, .int .u64 0, .int .u64 0])) (0, 0) _ _ (by kernel_rfl) (by kernel_rfl) (M.get 0 rfl) Tryz.underlying24 rfl (by rw [av_size]; exact inz24)) (by kernel_rfl) ⟨by rw [e0, e1, e2], below_grown M.old⟩
    · skip
      by_cases he2 : l2 = []
      · skip
        subst he2
        refine pl_call M (want_no rfl) (some 25) rfl 89 #[.string (cuB s ⟨#[58, 58]⟩), .string ⟨#[58]⟩, .int .i64 16, .int .i64 16] (.tuple #[.slice none 0 0, .bool true]) (fun _ => by kernel_rfl) (fun w M => c_nums16E (cuB s ⟨#[58, 58]⟩) ⟨#[58]⟩ (by have := cuB_le s ⟨#[58, 58]⟩; omega) (by decide) hN2 w M.laid) ?_
        intro u4 M
        refine pl_val (want_no rfl) (some 23) rfl (.tuple #[.slice none 0 0, .bool true]) (fun _ => by kernel_rfl) ?_
        refine pl_val (want_no rfl) (some 26) rfl (.slice none 0 0) (fun _ => by kernel_rfl) ?_
        refine pl_val (want_no rfl) (some 27) rfl (.bool true) (fun _ => by kernel_rfl) ?_
        refine pl_val (want_no rfl) (some 9) rfl (.slice none 0 0) (fun _ => by kernel_rfl) ?_
        refine pl_val (want_no rfl) (some 10) rfl (.bool true) (fun _ => by kernel_rfl) ?_
        refine pl_nil ?_
        refine au_then ?_
        refine wp_seq ?_
        refine rg_lit ?_
        refine pl_new M (want_no rfl) (some 11) rfl (.cells (av 8 (w16 (fun _ => 0))) 94) (fun _ => by kernel_rfl) ?_
        intro g2 u5 M
        replace M : Mem ⟨w, []⟩ [⟨g1, .cells (av 3 (ls [.bool false, .int .u64 0, .int .u64 0])) 24⟩, ⟨g2, .cells (av 8 (w16 (fun _ => 0))) 94⟩] u5 := M
        refine pl_nil ?_
        refine au_then ?_
        refine wp_seq ?_
        refine wp_seq ?_
        refine rg_lit ?_
        refine pl_val (want_no rfl) (some 28) rfl (.bool false) (fun _ => by kernel_rfl) ?_
        refine pl_val (want_no rfl) (some 29) rfl (.bool true) (fun _ => by kernel_rfl) ?_
        refine pl_val (want_no rfl) (some 30) rfl (.bool true) (fun _ => by kernel_rfl) ?_
        refine pl_skip (want_off 2 false rfl 30 rfl (by kernel_rfl)) (some 31) rfl ?_
        refine pl_skip (want_off 2 false rfl 30 rfl (by kernel_rfl)) (some 32) rfl ?_
        refine pl_val (want_no rfl) (some 33) rfl (.bool true) (fun _ => by kernel_rfl) ?_
        refine pl_val (want_no rfl) (some 34) rfl (.bool true) (fun _ => by kernel_rfl) ?_
        refine pl_skip (want_off 6 false rfl 34 rfl (by kernel_rfl)) (some 35) rfl ?_
        refine pl_skip (want_off 6 false rfl 34 rfl (by kernel_rfl)) (some 36) rfl ?_
        refine pl_skip (want_off 6 false rfl 34 rfl (by kernel_rfl)) (some 37) rfl ?_
        refine pl_skip (want_off 6 false rfl 34 rfl (by kernel_rfl)) (some 38) rfl ?_
        refine pl_skip (want_off 6 false rfl 34 rfl (by kernel_rfl)) (some 39) rfl ?_
        refine pl_skip (want_off 6 false rfl 34 rfl (by kernel_rfl)) (some 40) rfl ?_
        refine pl_val (want_no rfl) (some 41) rfl (.bool true) (fun _ => by kernel_rfl) ?_
        refine pl_nil ?_
        refine au_then ?_
        refine wp_cond_true (by kernel_rfl) ?_
        refine wp_seq ?_
        refine rg_lit ?_
        refine pl_val (want_no rfl) (some 42) rfl (.agg (av 3 (ls [.bool false, .int .u64 0, .int .u64 0]))) (fun _ => by kernel_rfl) ?_
        refine pl_put M (want_no rfl) rfl 24 _ _ rfl 0 g1 0 (by kernel_rfl) 3 24 (ls [.bool false, .int .u64 0, .int .u64 0]) rfl 3 (ls [.bool false, .int .u64 0, .int .u64 0]) (ls [.bool false, .int .u64 0, .int .u64 0]) (by kernel_rfl) inz24 (by decide) (one_ls _ rfl) (fun j hj => by rw [if_pos (by omega), Nat.sub_zero]) ?_
        intro u6 M
        replace M : Mem ⟨w, []⟩ [⟨g1, .cells (av 3 (ls [.bool false, .int .u64 0, .int .u64 0])) 24⟩, ⟨g2, .cells (av 8 (w16 (fun _ => 0))) 94⟩] u6 := M
        refine pl_val (want_no rfl) (some 3) rfl (.bool false) (fun _ => by kernel_rfl) ?_
        refine pl_nil ?_
        refine au_then ?_
        refine wp_ret ?_
        refine au_then_ret ?_
        have e0 : (lk6 s).isSome = false := by rw [(show lk6 s = none by unfold lk6; rw [hN1, hN2])]; rfl
        have e1 : ((lk6 s).getD (0, 0)).1 = 0 := by rw [(show lk6 s = none by unfold lk6; rw [hN1, hN2])]; rfl
        have e2 : ((lk6 s).getD (0, 0)).2 = 0 := by rw [(show lk6 s = none by unfold lk6; rw [hN1, hN2])]; rfl
        exact bodyPost_ret (v := .tuple #[.agg (av 3 (ls [.bool false, .int .u64 0, .int .u64 0])), .bool false]) (results_cell_tmp Tryz.results69 _ _ g1 24 (av 3 (ls [.bool false, .int .u64 0, .int .u64 0])) (0, 0) _ _ (by kernel_rfl) (by kernel_rfl) (M.get 0 rfl) Tryz.underlying24 rfl (by rw [av_size]; exact inz24)) (by kernel_rfl) ⟨by rw [e0, e1, e2], below_grown M.old⟩
      · skip
        refine pl_callL M (want_no rfl) (some 25) rfl 89 #[.string (cuB s ⟨#[58, 58]⟩), .string ⟨#[58]⟩, .int .i64 16, .int .i64 16] (fun g cap => .tuple #[.slice (some ⟨g, 0, none⟩) l2.length cap, .bool true]) (fun cap Z => SB Z cap (v16 l2)) (fun _ => by kernel_rfl) (fun w M => c_nums16L (cuB s ⟨#[58, 58]⟩) ⟨#[58]⟩ (by have := cuB_le s ⟨#[58, 58]⟩; omega) (by decide) l2 he2 hN2 w M.laid) ?_
        intro gl2 cp2 Z2 u4 hZ2 M
        replace M : Mem ⟨w, []⟩ [⟨g1, .cells (av 3 (ls [.bool false, .int .u64 0, .int .u64 0])) 24⟩, ⟨gl2, Z2⟩] u4 := M
        refine pl_val (want_no rfl) (some 23) rfl (.tuple #[.slice (some ⟨gl2, 0, none⟩) l2.length cp2, .bool true]) (fun _ => by kernel_rfl) ?_
        refine pl_val (want_no rfl) (some 26) rfl (.slice (some ⟨gl2, 0, none⟩) l2.length cp2) (fun _ => by kernel_rfl) ?_
        refine pl_val (want_no rfl) (some 27) rfl (.bool true) (fun _ => by kernel_rfl) ?_
        refine pl_val (want_no rfl) (some 9) rfl (.slice (some ⟨gl2, 0, none⟩) l2.length cp2) (fun _ => by kernel_rfl) ?_
        refine pl_val (want_no rfl) (some 10) rfl (.bool true) (fun _ => by kernel_rfl) ?_
        refine pl_nil ?_
        refine au_then ?_
        refine wp_seq ?_
        refine rg_lit ?_
        refine pl_new M (want_no rfl) (some 11) rfl (.cells (av 8 (w16 (fun _ => 0))) 94) (fun _ => by kernel_rfl) ?_
        intro g2 u5 M
        replace M : Mem ⟨w, []⟩ [⟨g1, .cells (av 3 (ls [.bool false, .int .u64 0, .int .u64 0])) 24⟩, ⟨gl2, Z2⟩, ⟨g2, .cells (av 8 (w16 (fun _ => 0))) 94⟩] u5 := M
        refine pl_nil ?_
        refine au_then ?_
        refine wp_seq ?_
        refine wp_seq ?_
        refine rg_lit ?_
        refine pl_val (want_no rfl) (some 28) rfl (.bool false) (fun _ => by kernel_rfl) ?_
        refine pl_val (want_no rfl) (some 29) rfl (.bool true) (fun _ => by kernel_rfl) ?_
        refine pl_val (want_no rfl) (some 30) rfl (.bool true) (fun _ => by kernel_rfl) ?_
        refine pl_skip (want_off 2 false rfl 30 rfl (by kernel_rfl)) (some 31) rfl ?_
        refine pl_skip (want_off 2 false rfl 30 rfl (by kernel_rfl)) (some 32) rfl ?_
        refine pl_val (want_no rfl) (some 33) rfl (.bool true) (fun _ => by kernel_rfl) ?_
        refine pl_val (want_no rfl) (some 34) rfl (.bool true) (fun _ => by kernel_rfl) ?_
        refine pl_skip (want_off 6 false rfl 34 rfl (by kernel_rfl)) (some 35) rfl ?_
        refine pl_skip (want_off 6 false rfl 34 rfl (by kernel_rfl)) (some 36) rfl ?_
        refine pl_skip (want_off 6 false rfl 34 rfl (by kernel_rfl)) (some 37) rfl ?_
        refine pl_skip (want_off 6 false rfl 34 rfl (by kernel_rfl)) (some 38) rfl ?_
        refine pl_skip (want_off 6 false rfl 34 rfl (by kernel_rfl)) (some 39) rfl ?_
        refine pl_skip (want_off 6 false rfl 34 rfl (by kernel_rfl)) (some 40) rfl ?_
        refine pl_val (want_no rfl) (some 41) rfl (.bool true) (fun _ => by kernel_rfl) ?_
        refine pl_nil ?_
        refine au_then ?_
        refine wp_cond_true (by kernel_rfl) ?_
        refine wp_seq ?_
        refine rg_lit ?_
        refine pl_val (want_no rfl) (some 42) rfl (.agg (av 3 (ls [.bool false, .int .u64 0, .int .u64 0]))) (fun _ => by kernel_rfl) ?_
        refine pl_put M (want_no rfl) rfl 24 _ _ rfl 0 g1 0 (by kernel_rfl) 3 24 (ls [.bool false, .int .u64 0, .int .u64 0]) rfl 3 (ls [.bool false, .int .u64 0, .int .u64 0]) (ls [.bool false, .int .u64 0, .int .u64 0]) (by kernel_rfl) inz24 (by decide) (one_ls _ rfl) (fun j hj => by rw [if_pos (by omega), Nat.sub_zero]) ?_
        intro u6 M
        replace M : Mem ⟨w, []⟩ [⟨g1, .cells (av 3 (ls [.bool false, .int .u64 0, .int .u64 0])) 24⟩, ⟨gl2, Z2⟩, ⟨g2, .cells (av 8 (w16 (fun _ => 0))) 94⟩] u6 := M
        refine pl_val (want_no rfl) (some 3) rfl (.bool false) (fun _ => by kernel_rfl) ?_
        refine pl_nil ?_
        refine au_then ?_
        refine wp_ret ?_
        refine au_then_ret ?_
        have e0 : (lk6 s).isSome = false := by rw [(show lk6 s = none by unfold lk6; rw [hN1, hN2])]; rfl
        have e1 : ((lk6 s).getD (0, 0)).1 = 0 := by rw [(show lk6 s = none by unfold lk6; rw [hN1, hN2])]; rfl
        have e2 : ((lk6 s).getD (0, 0)).2 = 0 := by rw [(show lk6 s = none by unfold lk6; rw [hN1, hN2])]; rfl
        exact bodyPost_ret (v := .tuple #[.agg (av 3 (ls [.bool false, .int .u64 0, .int .u64 0])), .bool false]) (results_cell_tmp Tryz.results69 _ _ g1 24 (av 3 (ls [.bool false, .int .u64 0, .int .u64 0])) (0, 0) _ _ (by kernel_rfl) (by kernel_rfl) (M.get 0 rfl) Tryz.underlying24 rfl (by rw [av_size]; exact inz24)) (by kernel_rfl) ⟨by rw [e0, e1, e2], below_grown M.old⟩
  · skip
    by_cases he1 : l1 = []
    · skip
      subst he1
      refine pl_call M (want_no rfl) (some 20) rfl 89 #[.string (cuA s ⟨#[58, 58]⟩), .string ⟨#[58]⟩, .int .i64 16, .int .i64 16] (.tuple #[.slice none 0 0, .bool true]) (fun _ => by kernel_rfl) (fun w M => c_nums16E (cuA s ⟨#[58, 58]⟩) ⟨#[58]⟩ (by have := cuA_le s ⟨#[58, 58]⟩; omega) (by decide) hN1 w M.laid) ?_
      intro u3 M
      refine pl_val (want_no rfl) (some 18) rfl (.tuple #[.slice none 0 0, .bool true]) (fun _ => by kernel_rfl) ?_
      refine pl_val (want_no rfl) (some 21) rfl (.slice none 0 0) (fun _ => by kernel_rfl) ?_
      refine pl_val (want_no rfl) (some 22) rfl (.bool true) (fun _ => by kernel_rfl) ?_
      refine pl_val (want_no rfl) (some 7) rfl (.slice none 0 0) (fun _ => by kernel_rfl) ?_
      refine pl_val (want_no rfl) (some 8) rfl (.bool true) (fun _ => by kernel_rfl) ?_
      refine pl_nil ?_
      refine au_then ?_
      refine wp_seq ?_
      refine rg_lit ?_
      refine pl_val (want_no rfl) (some 24) rfl (.string (cuB s ⟨#[58, 58]⟩)) (fun _ => by kernel_rfl) ?_
      rcases hN2 : nbs 16 65535 (cuB s ⟨#[58, 58]⟩) ⟨#[58]⟩ with _ | l2
      · skip
        refine pl_call M (want_no rfl) (some 25) rfl 89 #[.string (cuB s ⟨#[58, 58]⟩), .string ⟨#[58]⟩, .int .i64 16, .int .i64 16] (.tuple #[.slice none 0 0, .bool false]) (fun _ => by kernel_rfl) (fun w M => c_nums16N (cuB s ⟨#[58, 58]⟩) ⟨#[58]⟩ (by have := cuB_le s ⟨#[58, 58]⟩; omega) (by decide) hN2 w M.laid) ?_
        intro u4 M
        refine pl_val (want_no rfl) (some 23) rfl (.tuple #[.slice none 0 0, .bool false]) (fun _ => by kernel_rfl) ?_
        refine pl_val (want_no rfl) (some 26) rfl (.slice none 0 0) (fun _ => by kernel_rfl) ?_
        refine pl_val (want_no rfl) (some 27) rfl (.bool false) (fun _ => by kernel_rfl) ?_
        refine pl_val (want_no rfl) (some 9) rfl (.slice none 0 0) (fun _ => by kernel_rfl) ?_
        refine pl_val (want_no rfl) (some 10) rfl (.bool false) (fun _ => by kernel_rfl) ?_
        refine pl_nil ?_
        refine au_then ?_
        refine wp_seq ?_
        refine rg_lit ?_
        refine pl_new M (want_no rfl) (some 11) rfl (.cells (av 8 (w16 (fun _ => 0))) 94) (fun _ => by kernel_rfl) ?_
        intro g2 u5 M
        replace M : Mem ⟨w, []⟩ [⟨g1, .cells (av 3 (ls [.bool false, .int .u64 0, .int .u64 0])) 24⟩, ⟨g2, .cells (av 8 (w16 (fun _ => 0))) 94⟩] u5 := M
        refine pl_nil ?_
        refine au_then ?_
        refine wp_seq ?_
        refine wp_seq ?_
        refine rg_lit ?_
        refine pl_val (want_no rfl) (some 28) rfl (.bool true) (fun _ => by kernel_rfl) ?_
        refine pl_val (want_no rfl) (some 29) rfl (.bool false) (fun _ => by kernel_rfl) ?_
        refine pl_val (want_no rfl) (some 30) rfl (.bool false) (fun _ => by kernel_rfl) ?_
        refine pl_val (want_on 2 false rfl 30 rfl (by kernel_rfl)) (some 31) rfl (.bool false) (fun _ => by kernel_rfl) ?_
        refine pl_val (want_on 2 false rfl 30 rfl (by kernel_rfl)) (some 32) rfl (.bool true) (fun _ => by kernel_rfl) ?_
        refine pl_val (want_no rfl) (some 33) rfl (.bool true) (fun _ => by kernel_rfl) ?_
        refine pl_val (want_no rfl) (some 34) rfl (.bool true) (fun _ => by kernel_rfl) ?_
        refine pl_skip (want_off 6 false rfl 34 rfl (by kernel_rfl)) (some 35) rfl ?_
        refine pl_skip (want_off 6 false rfl 34 rfl (by kernel_rfl)) (some 36) rfl ?_
        refine pl_skip (want_off 6 false rfl 34 rfl (by kernel_rfl)) (some 37) rfl ?_
        refine pl_skip (want_off 6 false rfl 34 rfl (by kernel_rfl)) (some 38) rfl ?_
        refine pl_skip (want_off 6 false rfl 34 rfl (by kernel_rfl)) (some 39) rfl ?_
        refine pl_skip (want_off 6 false rfl 34 rfl (by kernel_rfl)) (some 40) rfl ?_
        refine pl_val (want_no rfl) (some 41) rfl (.bool true) (fun _ => by kernel_rfl) ?_
        refine pl_nil ?_
        refine au_then ?_
        refine wp_cond_true (by kernel_rfl) ?_
        refine wp_seq ?_
        refine rg_lit ?_
        refine pl_val (want_no rfl) (some 42) rfl (.agg (av 3 (ls [.bool false, .int .u64 0, .int .u64 0]))) (fun _ => by kernel_rfl) ?_
        refine pl_put M (want_no rfl) rfl 24 _ _ rfl 0 g1 0 (by kernel_rfl) 3 24 (ls [.bool false, .int .u64 0, .int .u64 0]) rfl 3 (ls [.bool false, .int .u64 0, .int .u64 0]) (ls [.bool false, .int .u64 0, .int .u64 0]) (by kernel_rfl) inz24 (by decide) (one_ls _ rfl) (fun j hj => by rw [if_pos (by omega), Nat.sub_zero]) ?_
        intro u6 M
        replace M : Mem ⟨w, []⟩ [⟨g1, .cells (av 3 (ls [.bool false, .int .u64 0, .int .u64 0])) 24⟩, ⟨g2, .cells (av 8 (w16 (fun _ => 0))) 94⟩] u6 := M
        refine pl_val (want_no rfl) (some 3) rfl (.bool false) (fun _ => by kernel_rfl) ?_
        refine pl_nil ?_
        refine au_then ?_
        refine wp_ret ?_
        refine au_then_ret ?_
        have e0 : (lk6 s).isSome = false := by rw [(show lk6 s = none by unfold lk6; rw [hN1, hN2])]; rfl
        have e1 : ((lk6 s).getD (0, 0)).1 = 0 := by rw [(show lk6 s = none by unfold lk6; rw [hN1, hN2])]; rfl
        have e2 : ((lk6 s).getD (0, 0)).2 = 0 := by rw [(show lk6 s = none by unfold lk6; rw [hN1, hN2])]; rfl
        exact bodyPost_ret (v := .tuple #[.agg (av 3 (ls [.bool false, .int .u64 0, .int .u64 0])), .bool false]) (results_cell_tmp Tryz.results69 _ _ g1 24 (av 3 (ls [.bool false, .int .u64 0, .int .u64 0])) (0, 0) _ _ (by kernel_rfl) (by kernel_rfl) (M.get 0 rfl) Tryz.underlying24 rfl (by rw [av_size]; exact inz24)) (by kernel_rfl) ⟨by rw [e0, e1, e2], below_grown M.old⟩
      · skip
        by_cases he2 : l2 = []
        · skip
          subst he2
          refine pl_call M (want_no rfl) (some 25) rfl 89 #[.string (cuB s ⟨#[58, 58]⟩), .string ⟨#[58]⟩, .int .i64 16, .int .i64 16] (.tuple #[.slice none 0 0, .bool true]) (fun _ => by kernel_rfl) (fun w M => c_nums16E (cuB s ⟨#[58, 58]⟩) ⟨#[58]⟩ (by have := cuB_le s ⟨#[58, 58]⟩; omega) (by decide) hN2 w M.laid) ?_
          intro u4 M
          refine pl_val (want_no rfl) (some 23) rfl (.tuple #[.slice none 0 0, .bool true]) (fun _ => by kernel_rfl) ?_
          refine pl_val (want_no rfl) (some 26) rfl (.slice none 0 0) (fun _ => by kernel_rfl) ?_
          refine pl_val (want_no rfl) (some 27) rfl (.bool true) (fun _ => by kernel_rfl) ?_
          refine pl_val (want_no rfl) (some 9) rfl (.slice none 0 0) (fun _ => by kernel_rfl) ?_
          refine pl_val (want_no rfl) (some 10) rfl (.bool true) (fun _ => by kernel_rfl) ?_
          refine pl_nil ?_
          refine au_then ?_
          refine wp_seq ?_
          refine rg_lit ?_
          refine pl_new M (want_no rfl) (some 11) rfl (.cells (av 8 (w16 (fun _ => 0))) 94) (fun _ => by kernel_rfl) ?_
          intro g2 u5 M
          replace M : Mem ⟨w, []⟩ [⟨g1, .cells (av 3 (ls [.bool false, .int .u64 0, .int .u64 0])) 24⟩, ⟨g2, .cells (av 8 (w16 (fun _ => 0))) 94⟩] u5 := M
          refine pl_nil ?_
          refine au_then ?_
          refine wp_seq ?_
          refine wp_seq ?_
          refine rg_lit ?_
          refine pl_val (want_no rfl) (some 28) rfl (.bool true) (fun _ => by kernel_rfl) ?_
          refine pl_val (want_no rfl) (some 29) rfl (.bool false) (fun _ => by kernel_rfl) ?_
          refine pl_val (want_no rfl) (some 30) rfl (.bool false) (fun _ => by kernel_rfl) ?_
          refine pl_val (want_on 2 false rfl 30 rfl (by kernel_rfl)) (some 31) rfl (.bool true) (fun _ => by kernel_rfl) ?_
          refine pl_val (want_on 2 false rfl 30 rfl (by kernel_rfl)) (some 32) rfl (.bool false) (fun _ => by kernel_rfl) ?_
          refine pl_val (want_no rfl) (some 33) rfl (.bool false) (fun _ => by kernel_rfl) ?_
          refine pl_val (want_no rfl) (some 34) rfl (.bool false) (fun _ => by kernel_rfl) ?_
          refine pl_val (want_on 6 false rfl 34 rfl (by kernel_rfl)) (some 35) rfl (.slice none 0 0) (fun _ => by kernel_rfl) ?_
          refine pl_val (want_on 6 false rfl 34 rfl (by kernel_rfl)) (some 36) rfl (.int .i64 0) (fun _ => by kernel_rfl) ?_
          refine pl_val (want_on 6 false rfl 34 rfl (by kernel_rfl)) (some 37) rfl (.slice none 0 0) (fun _ => by kernel_rfl) ?_
          refine pl_val (want_on 6 false rfl 34 rfl (by kernel_rfl)) (some 38) rfl (.int .i64 0) (fun _ => by kernel_rfl) ?_
          refine pl_val (want_on 6 false rfl 34 rfl (by kernel_rfl)) (some 39) rfl (.int .i64 0) (fun _ => by kernel_rfl) ?_
          refine pl_val (want_on 6 false rfl 34 rfl (by kernel_rfl)) (some 40) rfl (.bool false) (fun _ => by kernel_rfl) ?_
          refine pl_val (want_no rfl) (some 41) rfl (.bool false) (fun _ => by kernel_rfl) ?_
          refine pl_nil ?_
          refine au_then ?_
          refine wp_cond_false (by kernel_rfl) ?_
          refine wp_skip ?_
          refine au_then ?_
          refine wp_seq ?_
          refine rg_lit ?_
          refine pl_val (want_no rfl) (some 43) rfl (.slice (some ⟨g2, 0, none⟩) 8 8) (fun _ => by kernel_rfl) ?_
          refine pl_val (want_no rfl) (some 44) rfl (.slice none 0 0) (fun _ => by kernel_rfl) ?_
          refine pl_val (want_no rfl) (some 45) rfl (.int .i64 0) (fun _ => by kernel_rfl) ?_
          refine pl_nil ?_
          refine au_then ?_
          refine wp_seq ?_
          refine rg_lit ?_
          refine pl_val (want_no rfl) (some 46) rfl (.slice none 0 0) (fun _ => by kernel_rfl) ?_
          refine pl_val (want_no rfl) (some 47) rfl (.int .i64 0) (fun _ => by kernel_rfl) ?_
          refine pl_val (want_no rfl) (some 48) rfl (.int .i64 8) (fun _ => by kernel_rfl) ?_
          refine pl_val (want_no rfl) (some 49) rfl (.slice (some ⟨g2, 0, none⟩) 0 0) (run_slAL 94 32 Tryz.underlying94 inz32 _ _ rfl g2 (by kernel_rfl) .i64 8 (by kernel_rfl) (by decide)) ?_
          refine pl_val (want_no rfl) (some 50) rfl (.slice none 0 0) (fun _ => by kernel_rfl) ?_
          refine pl_val (want_no rfl) (some 51) rfl (.int .i64 0) (fun _ => by kernel_rfl) ?_
          refine pl_nil ?_
          refine au_then ?_
          refine wp_seq ?_
          refine rg_lit ?_
          refine pl_load M (want_no rfl) (some 52) rfl 94 _ rfl 1 g2 0 (by kernel_rfl) 8 94 (w16 (fun _ => 0)) rfl 8 (w16 (fun _ => 0)) (fun j _ => by rw [Nat.zero_add]) (by decide) _ Tryz.underlying94 rfl inz94 ?_
          refine pl_call M (want_no rfl) (some 53) rfl 90 #[.agg (av 8 (w16 (fun _ => 0)))] (.agg (av 3 (ls [.bool true, .int .u64 (adH (fun _ => 0)), .int .u64 (adL (fun _ => 0))]))) (fun _ => by kernel_rfl) (fun w M => c_addr (fun _ => 0) w M.laid) ?_
          intro u6 M
          refine pl_put M (want_no rfl) rfl 24 _ _ rfl 0 g1 0 (by kernel_rfl) 3 24 (ls [.bool false, .int .u64 0, .int .u64 0]) rfl 3 (ls [.bool true, .int .u64 (adH (fun _ => 0)), .int .u64 (adL (fun _ => 0))]) (ls [.bool true, .int .u64 (adH (fun _ => 0)), .int .u64 (adL (fun _ => 0))]) (by kernel_rfl) inz24 (by decide) (one_ls _ rfl) (fun j hj => by rw [if_pos (by omega), Nat.sub_zero]) ?_
          intro u7 M
          replace M : Mem ⟨w, []⟩ [⟨g1, .cells (av 3 (ls [.bool true, .int .u64 (adH (fun _ => 0)), .int .u64 (adL (fun _ => 0))])) 24⟩, ⟨g2, .cells (av 8 (w16 (fun _ => 0))) 94⟩] u7 := M
          refine pl_val (want_no rfl) (some 3) rfl (.bool true) (fun _ => by kernel_rfl) ?_
          refine pl_nil ?_
          refine au_then ?_
          refine wp_ret ?_
          have e0 : (lk6 s).isSome = true := by rw [(show lk6 s = some (adH (g6 [] []), adL (g6 [] [])) by unfold lk6; rw [hN1, hN2]; exact if_neg (by decide))]; rfl
          have e1 : ((lk6 s).getD (0, 0)).1 = (adH (fun _ => 0)) := by rw [(show lk6 s = some (adH (g6 [] []), adL (g6 [] [])) by unfold lk6; rw [hN1, hN2]; exact if_neg (by decide))]; show adH (g6 [] []) = _; unfold g6; rw [cpl_nil, cpl_nil]
          have e2 : ((lk6 s).getD (0, 0)).2 = (adL (fun _ => 0)) := by rw [(show lk6 s = some (adH (g6 [] []), adL (g6 [] [])) by unfold lk6; rw [hN1, hN2]; exact if_neg (by decide))]; show adL (g6 [] []) = _; unfold g6; rw [cpl_nil, cpl_nil]
          exact bodyPost_ret (v := .tuple #[.agg (av 3 (ls [.bool true, .int .u64 (adH (fun _ => 0)), .int .u64 (adL (fun _ => 0))])), .bool true]) (results_cell_tmp Tryz.results69 _ _ g1 24 (av 3 (ls [.bool true, .int .u64 (adH (fun _ => 0)), .int .u64 (adL (fun _ => 0))])) (0, 0) _ _ (by kernel_rfl) (by kernel_rfl) (M.get 0 rfl) Tryz.underlying24 rfl (by rw [av_size]; exact inz24)) (by kernel_rfl) ⟨by rw [e0, e1, e2], below_grown M.old⟩
        · skip
          refine pl_callL M (want_no rfl) (some 25) rfl 89 #[.string (cuB s ⟨#[58, 58]⟩), .string ⟨#[58]⟩, .int .i64 16, .int .i64 16] (fun g cap => .tuple #[.slice (some ⟨g, 0, none⟩) l2.length cap, .bool true]) (fun cap Z => SB Z cap (v16 l2)) (fun _ => by kernel_rfl) (fun w M => c_nums16L (cuB s ⟨#[58, 58]⟩) ⟨#[58]⟩ (by have := cuB_le s ⟨#[58, 58]⟩; omega) (by decide) l2 he2 hN2 w M.laid) ?_
          intro gl2 cp2 Z2 u4 hZ2 M
          replace M : Mem ⟨w, []⟩ [⟨g1, .cells (av 3 (ls [.bool false, .int .u64 0, .int .u64 0])) 24⟩, ⟨gl2, Z2⟩] u4 := M
          refine pl_val (want_no rfl) (some 23) rfl (.tuple #[.slice (some ⟨gl2, 0, none⟩) l2.length cp2, .bool true]) (fun _ => by kernel_rfl) ?_
          refine pl_val (want_no rfl) (some 26) rfl (.slice (some ⟨gl2, 0, none⟩) l2.length cp2) (fun _ => by kernel_rfl) ?_
          refine pl_val (want_no rfl) (some 27) rfl (.bool true) (fun _ => by kernel_rfl) ?_
          refine pl_val (want_no rfl) (some 9) rfl (.slice (some ⟨gl2, 0, none⟩) l2.length cp2) (fun _ => by kernel_rfl) ?_
          refine pl_val (want_no rfl) (some 10) rfl (.bool true) (fun _ => by kernel_rfl) ?_
          refine pl_nil ?_
          refine au_then ?_
          refine wp_seq ?_
          refine rg_lit ?_
          refine pl_new M (want_no rfl) (some 11) rfl (.cells (av 8 (w16 (fun _ => 0))) 94) (fun _ => by kernel_rfl) ?_
          intro g2 u5 M
          replace M : Mem ⟨w, []⟩ [⟨g1, .cells (av 3 (ls [.bool false, .int .u64 0, .int .u64 0])) 24⟩, ⟨gl2, Z2⟩, ⟨g2, .cells (av 8 (w16 (fun _ => 0))) 94⟩] u5 := M
          refine pl_nil ?_
          refine au_then ?_
          refine wp_seq ?_
          refine wp_seq ?_
          refine rg_lit ?_
          refine pl_val (want_no rfl) (some 28) rfl (.bool true) (fun _ => by kernel_rfl) ?_
          refine pl_val (want_no rfl) (some 29) rfl (.bool false) (fun _ => by kernel_rfl) ?_
          refine pl_val (want_no rfl) (some 30) rfl (.bool false) (fun _ => by kernel_rfl) ?_
          refine pl_val (want_on 2 false rfl 30 rfl (by kernel_rfl)) (some 31) rfl (.bool true) (fun _ => by kernel_rfl) ?_
          refine pl_val (want_on 2 false rfl 30 rfl (by kernel_rfl)) (some 32) rfl (.bool false) (fun _ => by kernel_rfl) ?_
          refine pl_val (want_no rfl) (some 33) rfl (.bool false) (fun _ => by kernel_rfl) ?_
          refine pl_val (want_no rfl) (some 34) rfl (.bool false) (fun _ => by kernel_rfl) ?_
          refine pl_val (want_on 6 false rfl 34 rfl (by kernel_rfl)) (some 35) rfl (.slice none 0 0) (fun _ => by kernel_rfl) ?_
          refine pl_val (want_on 6 false rfl 34 rfl (by kernel_rfl)) (some 36) rfl (.int .i64 0) (fun _ => by kernel_rfl) ?_
          refine pl_val (want_on 6 false rfl 34 rfl (by kernel_rfl)) (some 37) rfl (.slice (some ⟨gl2, 0, none⟩) l2.length cp2) (fun _ => by kernel_rfl) ?_
          refine pl_val (want_on 6 false rfl 34 rfl (by kernel_rfl)) (some 38) rfl (.int .i64 ((l2.length : Nat) : Int)) (fun _ => by kernel_rfl) ?_
          have hq2 := hl2 l2 hN2
          refine pl_val (want_on 6 false rfl 34 rfl (by kernel_rfl)) (some 39) rfl (.int .i64 (0 + ((l2.length : Nat) : Int))) (fun w => Eq.trans (b := .ok (.value (.int .i64 (cv .i64 (0 + ((l2.length : Nat) : Int))))) w) (by kernel_rfl) (by rw [cv_i64 (by omega) (by omega)])) ?_
          by_cases c4 : 8 < (0 + ((l2.length : Nat) : Int))
          · skip
            refine pl_val (want_on 6 false rfl 34 rfl (by kernel_rfl)) (some 40) rfl (.bool true) (fun w => Eq.trans (b := .ok (.value (.bool (decide (8 < (0 + ((l2.length : Nat) : Int)))))) w) (by kernel_rfl) (by rw [decide_eq_true (c4)])) ?_
            refine pl_val (want_no rfl) (some 41) rfl (.bool true) (fun _ => by kernel_rfl) ?_
            refine pl_nil ?_
            refine au_then ?_
            refine wp_cond_true (by kernel_rfl) ?_
            refine wp_seq ?_
            refine rg_lit ?_
            refine pl_val (want_no rfl) (some 42) rfl (.agg (av 3 (ls [.bool false, .int .u64 0, .int .u64 0]))) (fun _ => by kernel_rfl) ?_
            refine pl_put M (want_no rfl) rfl 24 _ _ rfl 0 g1 0 (by kernel_rfl) 3 24 (ls [.bool false, .int .u64 0, .int .u64 0]) rfl 3 (ls [.bool false, .int .u64 0, .int .u64 0]) (ls [.bool false, .int .u64 0, .int .u64 0]) (by kernel_rfl) inz24 (by decide) (one_ls _ rfl) (fun j hj => by rw [if_pos (by omega), Nat.sub_zero]) ?_
            intro u6 M
            replace M : Mem ⟨w, []⟩ [⟨g1, .cells (av 3 (ls [.bool false, .int .u64 0, .int .u64 0])) 24⟩, ⟨gl2, Z2⟩, ⟨g2, .cells (av 8 (w16 (fun _ => 0))) 94⟩] u6 := M
            refine pl_val (want_no rfl) (some 3) rfl (.bool false) (fun _ => by kernel_rfl) ?_
            refine pl_nil ?_
            refine au_then ?_
            refine wp_ret ?_
            refine au_then_ret ?_
            have e0 : (lk6 s).isSome = false := by rw [(show lk6 s = none by unfold lk6; rw [hN1, hN2]; exact if_pos (by simp only [List.length_nil]; omega))]; rfl
            have e1 : ((lk6 s).getD (0, 0)).1 = 0 := by rw [(show lk6 s = none by unfold lk6; rw [hN1, hN2]; exact if_pos (by simp only [List.length_nil]; omega))]; rfl
            have e2 : ((lk6 s).getD (0, 0)).2 = 0 := by rw [(show lk6 s = none by unfold lk6; rw [hN1, hN2]; exact if_pos (by simp only [List.length_nil]; omega))]; rfl
            exact bodyPost_ret (v := .tuple #[.agg (av 3 (ls [.bool false, .int .u64 0, .int .u64 0])), .bool false]) (results_cell_tmp Tryz.results69 _ _ g1 24 (av 3 (ls [.bool false, .int .u64 0, .int .u64 0])) (0, 0) _ _ (by kernel_rfl) (by kernel_rfl) (M.get 0 rfl) Tryz.underlying24 rfl (by rw [av_size]; exact inz24)) (by kernel_rfl) ⟨by rw [e0, e1, e2], below_grown M.old⟩
          · skip
            refine pl_val (want_on 6 false rfl 34 rfl (by kernel_rfl)) (some 40) rfl (.bool false) (fun w => Eq.trans (b := .ok (.value (.bool (decide (8 < (0 + ((l2.length : Nat) : Int)))))) w) (by kernel_rfl) (by rw [decide_eq_false (c4)])) ?_
            refine pl_val (want_no rfl) (some 41) rfl (.bool false) (fun _ => by kernel_rfl) ?_
            refine pl_nil ?_
            refine au_then ?_
            refine wp_cond_false (by kernel_rfl) ?_
            refine wp_skip ?_
            refine au_then ?_
            refine wp_seq ?_
            refine rg_lit ?_
            refine pl_val (want_no rfl) (some 43) rfl (.slice (some ⟨g2, 0, none⟩) 8 8) (fun _ => by kernel_rfl) ?_
            refine pl_val (want_no rfl) (some 44) rfl (.slice none 0 0) (fun _ => by kernel_rfl) ?_
            refine pl_val (want_no rfl) (some 45) rfl (.int .i64 0) (fun _ => by kernel_rfl) ?_
            refine pl_nil ?_
            refine au_then ?_
            refine wp_seq ?_
            refine rg_lit ?_
            refine pl_val (want_no rfl) (some 46) rfl (.slice (some ⟨gl2, 0, none⟩) l2.length cp2) (fun _ => by kernel_rfl) ?_
            refine pl_val (want_no rfl) (some 47) rfl (.int .i64 ((l2.length : Nat) : Int)) (fun _ => by kernel_rfl) ?_
            refine pl_val (want_no rfl) (some 48) rfl (.int .i64 ((8 - l2.length : Nat) : Int)) (fun w => Eq.trans (b := .ok (.value (.int .i64 (cv .i64 (8 - ((l2.length : Nat) : Int))))) w) (by kernel_rfl) (by rw [cv_i64 (by omega) (by omega)]; congr 3; omega)) ?_
            refine pl_val (want_no rfl) (some 49) rfl (.slice (some ⟨g2, (8 - l2.length), none⟩) (8 - (8 - l2.length)) (8 - (8 - l2.length))) (fun w => (run_slAL 94 32 Tryz.underlying94 inz32 _ _ rfl g2 (by kernel_rfl) .i64 (8 - l2.length) (by kernel_rfl) (by omega) w).trans (by rw [show so (8 - l2.length) = 8 - l2.length from if_neg (by have := List.length_pos_iff.2 he2; omega)])) ?_
            refine pl_val (want_no rfl) (some 50) rfl (.slice (some ⟨gl2, 0, none⟩) l2.length cp2) (fun _ => by kernel_rfl) ?_
            refine pl_copyC M (want_no rfl) (some 51) rfl 99 99 3 32 Tryz.underlying99 inz32 2 g2 8 94 (w16 (fun _ => 0)) rfl gl2 (w16 (tgi l2)) (8 - l2.length) (8 - (8 - l2.length)) (8 - (8 - l2.length)) 0 l2.length cp2 l2.length (by show _ = min _ _; omega) (by omega) (fun w M j hj => by rw [Nat.zero_add]; exact hZ2.cell (M.get 1 rfl) (v16_at _ _ hj)) (fun _ => rfl) (w16 (cpl (fun _ => 0) (8 - l2.length) l2)) (fun j _ => cpl_w16 _ _ _ j) (fun _ => by kernel_rfl) ?_
            intro u6 M
            replace M : Mem ⟨w, []⟩ [⟨g1, .cells (av 3 (ls [.bool false, .int .u64 0, .int .u64 0])) 24⟩, ⟨gl2, Z2⟩, ⟨g2, .cells (av 8 (w16 (cpl (fun _ => 0) (8 - l2.length) l2))) 94⟩] u6 := M
            refine pl_nil ?_
            refine au_then ?_
            refine wp_seq ?_
            refine rg_lit ?_
            refine pl_load M (want_no rfl) (some 52) rfl 94 _ rfl 2 g2 0 (by kernel_rfl) 8 94 (w16 (cpl (fun _ => 0) (8 - l2.length) l2)) rfl 8 (w16 (cpl (fun _ => 0) (8 - l2.length) l2)) (fun j _ => by rw [Nat.zero_add]) (by decide) _ Tryz.underlying94 rfl inz94 ?_
            refine pl_call M (want_no rfl) (some 53) rfl 90 #[.agg (av 8 (w16 (cpl (fun _ => 0) (8 - l2.length) l2)))] (.agg (av 3 (ls [.bool true, .int .u64 (adH (cpl (fun _ => 0) (8 - l2.length) l2)), .int .u64 (adL (cpl (fun _ => 0) (8 - l2.length) l2))]))) (fun _ => by kernel_rfl) (fun w M => c_addr (cpl (fun _ => 0) (8 - l2.length) l2) w M.laid) ?_
            intro u7 M
            refine pl_put M (want_no rfl) rfl 24 _ _ rfl 0 g1 0 (by kernel_rfl) 3 24 (ls [.bool false, .int .u64 0, .int .u64 0]) rfl 3 (ls [.bool true, .int .u64 (adH (cpl (fun _ => 0) (8 - l2.length) l2)), .int .u64 (adL (cpl (fun _ => 0) (8 - l2.length) l2))]) (ls [.bool true, .int .u64 (adH (cpl (fun _ => 0) (8 - l2.length) l2)), .int .u64 (adL (cpl (fun _ => 0) (8 - l2.length) l2))]) (by kernel_rfl) inz24 (by decide) (one_ls _ rfl) (fun j hj => by rw [if_pos (by omega), Nat.sub_zero]) ?_
            intro u8 M
            replace M : Mem ⟨w, []⟩ [⟨g1, .cells (av 3 (ls [.bool true, .int .u64 (adH (cpl (fun _ => 0) (8 - l2.length) l2)), .int .u64 (adL (cpl (fun _ => 0) (8 - l2.length) l2))])) 24⟩, ⟨gl2, Z2⟩, ⟨g2, .cells (av 8 (w16 (cpl (fun _ => 0) (8 - l2.length) l2))) 94⟩] u8 := M
            refine pl_val (want_no rfl) (some 3) rfl (.bool true) (fun _ => by kernel_rfl) ?_
            refine pl_nil ?_
            refine au_then ?_
            refine wp_ret ?_
            have e0 : (lk6 s).isSome = true := by rw [(show lk6 s = some (adH (g6 [] l2), adL (g6 [] l2)) by unfold lk6; rw [hN1, hN2]; exact if_neg (by simp only [List.length_nil]; omega))]; rfl
            have e1 : ((lk6 s).getD (0, 0)).1 = (adH (cpl (fun _ => 0) (8 - l2.length) l2)) := by rw [(show lk6 s = some (adH (g6 [] l2), adL (g6 [] l2)) by unfold lk6; rw [hN1, hN2]; exact if_neg (by simp only [List.length_nil]; omega))]; show adH (g6 [] l2) = _; unfold g6; rw [cpl_nil]
            have e2 : ((lk6 s).getD (0, 0)).2 = (adL (cpl (fun _ => 0) (8 - l2.length) l2)) := by rw [(show lk6 s = some (adH (g6 [] l2), adL (g6 [] l2)) by unfold lk6; rw [hN1, hN2]; exact if_neg (by simp only [List.length_nil]; omega))]; show adL (g6 [] l2) = _; unfold g6; rw [cpl_nil]
            exact bodyPost_ret (v := .tuple #[.agg (av 3 (ls [.bool true, .int .u64 (adH (cpl (fun _ => 0) (8 - l2.length) l2)), .int .u64 (adL (cpl (fun _ => 0) (8 - l2.length) l2))])), .bool true]) (results_cell_tmp Tryz.results69 _ _ g1 24 (av 3 (ls [.bool true, .int .u64 (adH (cpl (fun _ => 0) (8 - l2.length) l2)), .int .u64 (adL (cpl (fun _ => 0) (8 - l2.length) l2))])) (0, 0) _ _ (by kernel_rfl) (by kernel_rfl) (M.get 0 rfl) Tryz.underlying24 rfl (by rw [av_size]; exact inz24)) (by kernel_rfl) ⟨by rw [e0, e1, e2], below_grown M.old⟩
    · skip
      refine pl_callL M (want_no rfl) (some 20) rfl 89 #[.string (cuA s ⟨#[58, 58]⟩), .string ⟨#[58]⟩, .int .i64 16, .int .i64 16] (fun g cap => .tuple #[.slice (some ⟨g, 0, none⟩) l1.length cap, .bool true]) (fun cap Z => SB Z cap (v16 l1)) (fun _ => by kernel_rfl) (fun w M => c_nums16L (cuA s ⟨#[58, 58]⟩) ⟨#[58]⟩ (by have := cuA_le s ⟨#[58, 58]⟩; omega) (by decide) l1 he1 hN1 w M.laid) ?_
      intro gl1 cp1 Z1 u3 hZ1 M
      replace M : Mem ⟨w, []⟩ [⟨g1, .cells (av 3 (ls [.bool false, .int .u64 0, .int .u64 0])) 24⟩, ⟨gl1, Z1⟩] u3 := M
      refine pl_val (want_no rfl) (some 18) rfl (.tuple #[.slice (some ⟨gl1, 0, none⟩) l1.length cp1, .bool true]) (fun _ => by kernel_rfl) ?_
      refine pl_val (want_no rfl) (some 21) rfl (.slice (some ⟨gl1, 0, none⟩) l1.length cp1) (fun _ => by kernel_rfl) ?_
      refine pl_val (want_no rfl) (some 22) rfl (.bool true) (fun _ => by kernel_rfl) ?_
      refine pl_val (want_no rfl) (some 7) rfl (.slice (some ⟨gl1, 0, none⟩) l1.length cp1) (fun _ => by kernel_rfl) ?_
      refine pl_val (want_no rfl) (some 8) rfl (.bool true) (fun _ => by kernel_rfl) ?_
      refine pl_nil ?_
      refine au_then ?_
      refine wp_seq ?_
      refine rg_lit ?_
      refine pl_val (want_no rfl) (some 24) rfl (.string (cuB s ⟨#[58, 58]⟩)) (fun _ => by kernel_rfl) ?_
      rcases hN2 : nbs 16 65535 (cuB s ⟨#[58, 58]⟩) ⟨#[58]⟩ with _ | l2
      · skip
        refine pl_call M (want_no rfl) (some 25) rfl 89 #[.string (cuB s ⟨#[58, 58]⟩), .string ⟨#[58]⟩, .int .i64 16, .int .i64 16] (.tuple #[.slice none 0 0, .bool false]) (fun _ => by kernel_rfl) (fun w M => c_nums16N (cuB s ⟨#[58, 58]⟩) ⟨#[58]⟩ (by have := cuB_le s ⟨#[58, 58]⟩; omega) (by decide) hN2 w M.laid) ?_
        intro u4 M
        refine pl_val (want_no rfl) (some 23) rfl (.tuple #[.slice none 0 0, .bool false]) (fun _ => by kernel_rfl) ?_
        refine pl_val (want_no rfl) (some 26) rfl (.slice none 0 0) (fun _ => by kernel_rfl) ?_
        refine pl_val (want_no rfl) (some 27) rfl (.bool false) (fun _ => by kernel_rfl) ?_
        refine pl_val (want_no rfl) (some 9) rfl (.slice none 0 0) (fun _ => by kernel_rfl) ?_
        refine pl_val (want_no rfl) (some 10) rfl (.bool false) (fun _ => by kernel_rfl) ?_
        refine pl_nil ?_
        refine au_then ?_
        refine wp_seq ?_
        refine rg_lit ?_
        refine pl_new M (want_no rfl) (some 11) rfl (.cells (av 8 (w16 (fun _ => 0))) 94) (fun _ => by kernel_rfl) ?_
        intro g2 u5 M
        replace M : Mem ⟨w, []⟩ [⟨g1, .cells (av 3 (ls [.bool false, .int .u64 0, .int .u64 0])) 24⟩, ⟨gl1, Z1⟩, ⟨g2, .cells (av 8 (w16 (fun _ => 0))) 94⟩] u5 := M
        refine pl_nil ?_
        refine au_then ?_
        refine wp_seq ?_
        refine wp_seq ?_
        refine rg_lit ?_
        refine pl_val (want_no rfl) (some 28) rfl (.bool true) (fun _ => by kernel_rfl) ?_
        refine pl_val (want_no rfl) (some 29) rfl (.bool false) (fun _ => by kernel_rfl) ?_
        refine pl_val (want_no rfl) (some 30) rfl (.bool false) (fun _ => by kernel_rfl) ?_
        refine pl_val (want_on 2 false rfl 30 rfl (by kernel_rfl)) (some 31) rfl (.bool false) (fun _ => by kernel_rfl) ?_
        refine pl_val (want_on 2 false rfl 30 rfl (by kernel_rfl)) (some 32) rfl (.bool true) (fun _ => by kernel_rfl) ?_
        refine pl_val (want_no rfl) (some 33) rfl (.bool true) (fun _ => by kernel_rfl) ?_
        refine pl_val (want_no rfl) (some 34) rfl (.bool true) (fun _ => by kernel_rfl) ?_
        refine pl_skip (want_off 6 false rfl 34 rfl (by kernel_rfl)) (some 35) rfl ?_
        refine pl_skip (want_off 6 false rfl 34 rfl (by kernel_rfl)) (some 36) rfl ?_
        refine pl_skip (want_off 6 false rfl 34 rfl (by kernel_rfl)) (some 37) rfl ?_
        refine pl_skip (want_off 6 false rfl 34 rfl (by kernel_rfl)) (some 38) rfl ?_
        refine pl_skip (want_off 6 false rfl 34 rfl (by kernel_rfl)) (some 39) rfl ?_
        refine pl_skip (want_off 6 false rfl 34 rfl (by kernel_rfl)) (some 40) rfl ?_
        refine pl_val (want_no rfl) (some 41) rfl (.bool true) (fun _ => by kernel_rfl) ?_
        refine pl_nil ?_
        refine au_then ?_
        refine wp_cond_true (by kernel_rfl) ?_
        refine wp_seq ?_
        refine rg_lit ?_
        refine pl_val (want_no rfl) (some 42) rfl (.agg (av 3 (ls [.bool false, .int .u64 0, .int .u64 0]))) (fun _ => by kernel_rfl) ?_
        refine pl_put M (want_no rfl) rfl 24 _ _ rfl 0 g1 0 (by kernel_rfl) 3 24 (ls [.bool false, .int .u64 0, .int .u64 0]) rfl 3 (ls [.bool false, .int .u64 0, .int .u64 0]) (ls [.bool false, .int .u64 0, .int .u64 0]) (by kernel_rfl) inz24 (by decide) (one_ls _ rfl) (fun j hj => by rw [if_pos (by omega), Nat.sub_zero]) ?_
        intro u6 M
        replace M : Mem ⟨w, []⟩ [⟨g1, .cells (av 3 (ls [.bool false, .int .u64 0, .int .u64 0])) 24⟩, ⟨gl1, Z1⟩, ⟨g2, .cells (av 8 (w16 (fun _ => 0))) 94⟩] u6 := M
        refine pl_val (want_no rfl) (some 3) rfl (.bool false) (fun _ => by kernel_rfl) ?_
        refine pl_nil ?_
        refine au_then ?_
        refine wp_ret ?_
        refine au_then_ret ?_
        have e0 : (lk6 s).isSome = false := by rw [(show lk6 s = none by unfold lk6; rw [hN1, hN2])]; rfl
        have e1 : ((lk6 s).getD (0, 0)).1 = 0 := by rw [(show lk6 s = none by unfold lk6; rw [hN1, hN2])]; rfl
        have e2 : ((lk6 s).getD (0, 0)).2 = 0 := by rw [(show lk6 s = none by unfold lk6; rw [hN1, hN2])]; rfl
        exact bodyPost_ret (v := .tuple #[.agg (av 3 (ls [.bool false, .int .u64 0, .int .u64 0])), .bool false]) (results_cell_tmp Tryz.results69 _ _ g1 24 (av 3 (ls [.bool false, .int .u64 0, .int .u64 0])) (0, 0) _ _ (by kernel_rfl) (by kernel_rfl) (M.get 0 rfl) Tryz.underlying24 rfl (by rw [av_size]; exact inz24)) (by kernel_rfl) ⟨by rw [e0, e1, e2], below_grown M.old⟩
      · skip
        by_cases he2 : l2 = []
        · skip
          subst he2
          refine pl_call M (want_no rfl) (some 25) rfl 89 #[.string (cuB s ⟨#[58, 58]⟩), .string ⟨#[58]⟩, .int .i64 16, .int .i64 16] (.tuple #[.slice none 0 0, .bool true]) (fun _ => by kernel_rfl) (fun w M => c_nums16E (cuB s ⟨#[58, 58]⟩) ⟨#[58]⟩ (by have := cuB_le s ⟨#[58, 58]⟩; omega) (by decide) hN2 w M.laid) ?_
          intro u4 M
          refine pl_val (want_no rfl) (some 23) rfl (.tuple #[.slice none 0 0, .bool true]) (fun _ => by kernel_rfl) ?_
          refine pl_val (want_no rfl) (some 26) rfl (.slice none 0 0) (fun _ => by kernel_rfl) ?_
          refine pl_val (want_no rfl) (some 27) rfl (.bool true) (fun _ => by kernel_rfl) ?_
          refine pl_val (want_no rfl) (some 9) rfl (.slice none 0 0) (fun _ => by kernel_rfl) ?_
          refine pl_val (want_no rfl) (some 10) rfl (.bool true) (fun _ => by kernel_rfl) ?_
          refine pl_nil ?_
          refine au_then ?_
          refine wp_seq ?_
          refine rg_lit ?_
          refine pl_new M (want_no rfl) (some 11) rfl (.cells (av 8 (w16 (fun _ => 0))) 94) (fun _ => by kernel_rfl) ?_
          intro g2 u5 M
          replace M : Mem ⟨w, []⟩ [⟨g1, .cells (av 3 (ls [.bool false, .int .u64 0, .int .u64 0])) 24⟩, ⟨gl1, Z1⟩, ⟨g2, .cells (av 8 (w16 (fun _ => 0))) 94⟩] u5 := M
          refine pl_nil ?_
          refine au_then ?_
          refine wp_seq ?_
          refine wp_seq ?_
          refine rg_lit ?_
          refine pl_val (want_no rfl) (some 28) rfl (.bool true) (fun _ => by kernel_rfl) ?_
          refine pl_val (want_no rfl) (some 29) rfl (.bool false) (fun _ => by kernel_rfl) ?_
          refine pl_val (want_no rfl) (some 30) rfl (.bool false) (fun _ => by kernel_rfl) ?_
          refine pl_val (want_on 2 false rfl 30 rfl (by kernel_rfl)) (some 31) rfl (.bool true) (fun _ => by kernel_rfl) ?_
          refine pl_val (want_on 2 false rfl 30 rfl (by kernel_rfl)) (some 32) rfl (.bool false) (fun _ => by kernel_rfl) ?_
          refine pl_val (want_no rfl) (some 33) rfl (.bool false) (fun _ => by kernel_rfl) ?_
          refine pl_val (want_no rfl) (some 34) rfl (.bool false) (fun _ => by kernel_rfl) ?_
          refine pl_val (want_on 6 false rfl 34 rfl (by kernel_rfl)) (some 35) rfl (.slice (some ⟨gl1, 0, none⟩) l1.length cp1) (fun _ => by kernel_rfl) ?_
          refine pl_val (want_on 6 false rfl 34 rfl (by kernel_rfl)) (some 36) rfl (.int .i64 ((l1.length : Nat) : Int)) (fun _ => by kernel_rfl) ?_
          refine pl_val (want_on 6 false rfl 34 rfl (by kernel_rfl)) (some 37) rfl (.slice none 0 0) (fun _ => by kernel_rfl) ?_
          refine pl_val (want_on 6 false rfl 34 rfl (by kernel_rfl)) (some 38) rfl (.int .i64 0) (fun _ => by kernel_rfl) ?_
          have hq1 := hl1 l1 hN1
          refine pl_val (want_on 6 false rfl 34 rfl (by kernel_rfl)) (some 39) rfl (.int .i64 (((l1.length : Nat) : Int) + 0)) (fun w => Eq.trans (b := .ok (.value (.int .i64 (cv .i64 (((l1.length : Nat) : Int) + 0)))) w) (by kernel_rfl) (by rw [cv_i64 (by omega) (by omega)])) ?_
          by_cases c4 : 8 < (((l1.length : Nat) : Int) + 0)
          · skip
            refine pl_val (want_on 6 false rfl 34 rfl (by kernel_rfl)) (some 40) rfl (.bool true) (fun w => Eq.trans (b := .ok (.value (.bool (decide (8 < (((l1.length : Nat) : Int) + 0))))) w) (by kernel_rfl) (by rw [decide_eq_true (c4)])) ?_
            refine pl_val (want_no rfl) (some 41) rfl (.bool true) (fun _ => by kernel_rfl) ?_
            refine pl_nil ?_
            refine au_then ?_
            refine wp_cond_true (by kernel_rfl) ?_
            refine wp_seq ?_
            refine rg_lit ?_
            refine pl_val (want_no rfl) (some 42) rfl (.agg (av 3 (ls [.bool false, .int .u64 0, .int .u64 0]))) (fun _ => by kernel_rfl) ?_
            refine pl_put M (want_no rfl) rfl 24 _ _ rfl 0 g1 0 (by kernel_rfl) 3 24 (ls [.bool false, .int .u64 0, .int .u64 0]) rfl 3 (ls [.bool false, .int .u64 0, .int .u64 0]) (ls [.bool false, .int .u64 0, .int .u64 0]) (by kernel_rfl) inz24 (by decide) (one_ls _ rfl) (fun j hj => by rw [if_pos (by omega), Nat.sub_zero]) ?_
            intro u6 M
            replace M : Mem ⟨w, []⟩ [⟨g1, .cells (av 3 (ls [.bool false, .int .u64 0, .int .u64 0])) 24⟩, ⟨gl1, Z1⟩, ⟨g2, .cells (av 8 (w16 (fun _ => 0))) 94⟩] u6 := M
            refine pl_val (want_no rfl) (some 3) rfl (.bool false) (fun _ => by kernel_rfl) ?_
            refine pl_nil ?_
            refine au_then ?_
            refine wp_ret ?_
            refine au_then_ret ?_
            have e0 : (lk6 s).isSome = false := by rw [(show lk6 s = none by unfold lk6; rw [hN1, hN2]; exact if_pos (by simp only [List.length_nil]; omega))]; rfl
            have e1 : ((lk6 s).getD (0, 0)).1 = 0 := by rw [(show lk6 s = none by unfold lk6; rw [hN1, hN2]; exact if_pos (by simp only [List.length_nil]; omega))]; rfl
            have e2 : ((lk6 s).getD (0, 0)).2 = 0 := by rw [(show lk6 s = none by unfold lk6; rw [hN1, hN2]; exact if_pos (by simp only [List.length_nil]; omega))]; rfl
            exact bodyPost_ret (v := .tuple #[.agg (av 3 (ls [.bool false, .int .u64 0, .int .u64 0])), .bool false]) (results_cell_tmp Tryz.results69 _ _ g1 24 (av 3 (ls [.bool false, .int .u64 0, .int .u64 0])) (0, 0) _ _ (by kernel_rfl) (by kernel_rfl) (M.get 0 rfl) Tryz.underlying24 rfl (by rw [av_size]; exact inz24)) (by kernel_rfl) ⟨by rw [e0, e1, e2], below_grown M.old⟩
          · skip
            refine pl_val (want_on 6 false rfl 34 rfl (by kernel_rfl)) (some 40) rfl (.bool false) (fun w => Eq.trans (b := .ok (.value (.bool (decide (8 < (((l1.length : Nat) : Int) + 0))))) w) (by kernel_rfl) (by rw [decide_eq_false (c4)])) ?_
            refine pl_val (want_no rfl) (some 41) rfl (.bool false) (fun _ => by kernel_rfl) ?_
            refine pl_nil ?_
            refine au_then ?_
            refine wp_cond_false (by kernel_rfl) ?_
            refine wp_skip ?_
            refine au_then ?_
            refine wp_seq ?_
            refine rg_lit ?_
            refine pl_val (want_no rfl) (some 43) rfl (.slice (some ⟨g2, 0, none⟩) 8 8) (fun _ => by kernel_rfl) ?_
            refine pl_val (want_no rfl) (some 44) rfl (.slice (some ⟨gl1, 0, none⟩) l1.length cp1) (fun _ => by kernel_rfl) ?_
            refine pl_copyC M (want_no rfl) (some 45) rfl 99 99 3 32 Tryz.underlying99 inz32 2 g2 8 94 (w16 (fun _ => 0)) rfl gl1 (w16 (tgi l1)) 0 8 8 0 l1.length cp1 l1.length (by show _ = min _ _; omega) (by omega) (fun w M j hj => by rw [Nat.zero_add]; exact hZ1.cell (M.get 1 rfl) (v16_at _ _ hj)) (fun _ => rfl) (w16 (cpl (fun _ => 0) 0 l1)) (fun j _ => cpl_w16 _ _ _ j) (fun _ => by kernel_rfl) ?_
            intro u6 M
            replace M : Mem ⟨w, []⟩ [⟨g1, .cells (av 3 (ls [.bool false, .int .u64 0, .int .u64 0])) 24⟩, ⟨gl1, Z1⟩, ⟨g2, .cells (av 8 (w16 (cpl (fun _ => 0) 0 l1))) 94⟩] u6 := M
            refine pl_nil ?_
            refine au_then ?_
            refine wp_seq ?_
            refine rg_lit ?_
            refine pl_val (want_no rfl) (some 46) rfl (.slice none 0 0) (fun _ => by kernel_rfl) ?_
            refine pl_val (want_no rfl) (some 47) rfl (.int .i64 0) (fun _ => by kernel_rfl) ?_
            refine pl_val (want_no rfl) (some 48) rfl (.int .i64 8) (fun _ => by kernel_rfl) ?_
            refine pl_val (want_no rfl) (some 49) rfl (.slice (some ⟨g2, 0, none⟩) 0 0) (run_slAL 94 32 Tryz.underlying94 inz32 _ _ rfl g2 (by kernel_rfl) .i64 8 (by kernel_rfl) (by decide)) ?_
            refine pl_val (want_no rfl) (some 50) rfl (.slice none 0 0) (fun _ => by kernel_rfl) ?_
            refine pl_val (want_no rfl) (some 51) rfl (.int .i64 0) (fun _ => by kernel_rfl) ?_
            refine pl_nil ?_
            refine au_then ?_
            refine wp_seq ?_
            refine rg_lit ?_
            refine pl_load M (want_no rfl) (some 52) rfl 94 _ rfl 2 g2 0 (by kernel_rfl) 8 94 (w16 (cpl (fun _ => 0) 0 l1)) rfl 8 (w16 (cpl (fun _ => 0) 0 l1)) (fun j _ => by rw [Nat.zero_add]) (by decide) _ Tryz.underlying94 rfl inz94 ?_
            refine pl_call M (want_no rfl) (some 53) rfl 90 #[.agg (av 8 (w16 (cpl (fun _ => 0) 0 l1)))] (.agg (av 3 (ls [.bool true, .int .u64 (adH (cpl (fun _ => 0) 0 l1)), .int .u64 (adL (cpl (fun _ => 0) 0 l1))]))) (fun _ => by kernel_rfl) (fun w M => c_addr (cpl (fun _ => 0) 0 l1) w M.laid) ?_
            intro u7 M
            refine pl_put M (want_no rfl) rfl 24 _ _ rfl 0 g1 0 (by kernel_rfl) 3 24 (ls [.bool false, .int .u64 0, .int .u64 0]) rfl 3 (ls [.bool true, .int .u64 (adH (cpl (fun _ => 0) 0 l1)), .int .u64 (adL (cpl (fun _ => 0) 0 l1))]) (ls [.bool true, .int .u64 (adH (cpl (fun _ => 0) 0 l1)), .int .u64 (adL (cpl (fun _ => 0) 0 l1))]) (by kernel_rfl) inz24 (by decide) (one_ls _ rfl) (fun j hj => by rw [if_pos (by omega), Nat.sub_zero]) ?_
            intro u8 M
            replace M : Mem ⟨w, []⟩ [⟨g1, .cells (av 3 (ls [.bool true, .int .u64 (adH (cpl (fun _ => 0) 0 l1)), .int .u64 (adL (cpl (fun _ => 0) 0 l1))])) 24⟩, ⟨gl1, Z1⟩, ⟨g2, .cells (av 8 (w16 (cpl (fun _ => 0) 0 l1))) 94⟩] u8 := M
            refine pl_val (want_no rfl) (some 3) rfl (.bool true) (fun _ => by kernel_rfl) ?_
            refine pl_nil ?_
            refine au_then ?_
            refine wp_ret ?_
            have e0 : (lk6 s).isSome = true := by rw [(show lk6 s = some (adH (g6 l1 []), adL (g6 l1 [])) by unfold lk6; rw [hN1, hN2]; exact if_neg (by simp only [List.length_nil]; omega))]; rfl
            have e1 : ((lk6 s).getD (0, 0)).1 = (adH (cpl (fun _ => 0) 0 l1)) := by rw [(show lk6 s = some (adH (g6 l1 []), adL (g6 l1 [])) by unfold lk6; rw [hN1, hN2]; exact if_neg (by simp only [List.length_nil]; omega))]; show adH (g6 l1 []) = _; unfold g6; rw [cpl_nil]
            have e2 : ((lk6 s).getD (0, 0)).2 = (adL (cpl (fun _ => 0) 0 l1)) := by rw [(show lk6 s = some (adH (g6 l1 []), adL (g6 l1 [])) by unfold lk6; rw [hN1, hN2]; exact if_neg (by simp only [List.length_nil]; omega))]; show adL (g6 l1 []) = _; unfold g6; rw [cpl_nil]
            exact bodyPost_ret (v := .tuple #[.agg (av 3 (ls [.bool true, .int .u64 (adH (cpl (fun _ => 0) 0 l1)), .int .u64 (adL (cpl (fun _ => 0) 0 l1))])), .bool true]) (results_cell_tmp Tryz.results69 _ _ g1 24 (av 3 (ls [.bool true, .int .u64 (adH (cpl (fun _ => 0) 0 l1)), .int .u64 (adL (cpl (fun _ => 0) 0 l1))])) (0, 0) _ _ (by kernel_rfl) (by kernel_rfl) (M.get 0 rfl) Tryz.underlying24 rfl (by rw [av_size]; exact inz24)) (by kernel_rfl) ⟨by rw [e0, e1, e2], below_grown M.old⟩
        · skip
          refine pl_callL M (want_no rfl) (some 25) rfl 89 #[.string (cuB s ⟨#[58, 58]⟩), .string ⟨#[58]⟩, .int .i64 16, .int .i64 16] (fun g cap => .tuple #[.slice (some ⟨g, 0, none⟩) l2.length cap, .bool true]) (fun cap Z => SB Z cap (v16 l2)) (fun _ => by kernel_rfl) (fun w M => c_nums16L (cuB s ⟨#[58, 58]⟩) ⟨#[58]⟩ (by have := cuB_le s ⟨#[58, 58]⟩; omega) (by decide) l2 he2 hN2 w M.laid) ?_
          intro gl2 cp2 Z2 u4 hZ2 M
          replace M : Mem ⟨w, []⟩ [⟨g1, .cells (av 3 (ls [.bool false, .int .u64 0, .int .u64 0])) 24⟩, ⟨gl1, Z1⟩, ⟨gl2, Z2⟩] u4 := M
          refine pl_val (want_no rfl) (some 23) rfl (.tuple #[.slice (some ⟨gl2, 0, none⟩) l2.length cp2, .bool true]) (fun _ => by kernel_rfl) ?_
          refine pl_val (want_no rfl) (some 26) rfl (.slice (some ⟨gl2, 0, none⟩) l2.length cp2) (fun _ => by kernel_rfl) ?_
          refine pl_val (want_no rfl) (some 27) rfl (.bool true) (fun _ => by kernel_rfl) ?_
          refine pl_val (want_no rfl) (some 9) rfl (.slice (some ⟨gl2, 0, none⟩) l2.length cp2) (fun _ => by kernel_rfl) ?_
          refine pl_val (want_no rfl) (some 10) rfl (.bool true) (fun _ => by kernel_rfl) ?_
          refine pl_nil ?_
          refine au_then ?_
          refine wp_seq ?_
          refine rg_lit ?_
          refine pl_new M (want_no rfl) (some 11) rfl (.cells (av 8 (w16 (fun _ => 0))) 94) (fun _ => by kernel_rfl) ?_
          intro g2 u5 M
          replace M : Mem ⟨w, []⟩ [⟨g1, .cells (av 3 (ls [.bool false, .int .u64 0, .int .u64 0])) 24⟩, ⟨gl1, Z1⟩, ⟨gl2, Z2⟩, ⟨g2, .cells (av 8 (w16 (fun _ => 0))) 94⟩] u5 := M
          refine pl_nil ?_
          refine au_then ?_
          refine wp_seq ?_
          refine wp_seq ?_
          refine rg_lit ?_
          refine pl_val (want_no rfl) (some 28) rfl (.bool true) (fun _ => by kernel_rfl) ?_
          refine pl_val (want_no rfl) (some 29) rfl (.bool false) (fun _ => by kernel_rfl) ?_
          refine pl_val (want_no rfl) (some 30) rfl (.bool false) (fun _ => by kernel_rfl) ?_
          refine pl_val (want_on 2 false rfl 30 rfl (by kernel_rfl)) (some 31) rfl (.bool true) (fun _ => by kernel_rfl) ?_
          refine pl_val (want_on 2 false rfl 30 rfl (by kernel_rfl)) (some 32) rfl (.bool false) (fun _ => by kernel_rfl) ?_
          refine pl_val (want_no rfl) (some 33) rfl (.bool false) (fun _ => by kernel_rfl) ?_
          refine pl_val (want_no rfl) (some 34) rfl (.bool false) (fun _ => by kernel_rfl) ?_
          refine pl_val (want_on 6 false rfl 34 rfl (by kernel_rfl)) (some 35) rfl (.slice (some ⟨gl1, 0, none⟩) l1.length cp1) (fun _ => by kernel_rfl) ?_
          refine pl_val (want_on 6 false rfl 34 rfl (by kernel_rfl)) (some 36) rfl (.int .i64 ((l1.length : Nat) : Int)) (fun _ => by kernel_rfl) ?_
          refine pl_val (want_on 6 false rfl 34 rfl (by kernel_rfl)) (some 37) rfl (.slice (some ⟨gl2, 0, none⟩) l2.length cp2) (fun _ => by kernel_rfl) ?_
          refine pl_val (want_on 6 false rfl 34 rfl (by kernel_rfl)) (some 38) rfl (.int .i64 ((l2.length : Nat) : Int)) (fun _ => by kernel_rfl) ?_
          have hq1 := hl1 l1 hN1
          have hq2 := hl2 l2 hN2
          refine pl_val (want_on 6 false rfl 34 rfl (by kernel_rfl)) (some 39) rfl (.int .i64 (((l1.length : Nat) : Int) + ((l2.length : Nat) : Int))) (fun w => Eq.trans (b := .ok (.value (.int .i64 (cv .i64 (((l1.length : Nat) : Int) + ((l2.length : Nat) : Int))))) w) (by kernel_rfl) (by rw [cv_i64 (by omega) (by omega)])) ?_
          by_cases c4 : 8 < (((l1.length : Nat) : Int) + ((l2.length : Nat) : Int))
          · skip
            refine pl_val (want_on 6 false rfl 34 rfl (by kernel_rfl)) (some 40) rfl (.bool true) (fun w => Eq.trans (b := .ok (.value (.bool (decide (8 < (((l1.length : Nat) : Int) + ((l2.length : Nat) : Int)))))) w) (by kernel_rfl) (by rw [decide_eq_true (c4)])) ?_
            refine pl_val (want_no rfl) (some 41) rfl (.bool true) (fun _ => by kernel_rfl) ?_
            refine pl_nil ?_
            refine au_then ?_
            refine wp_cond_true (by kernel_rfl) ?_
            refine wp_seq ?_
            refine rg_lit ?_
            refine pl_val (want_no rfl) (some 42) rfl (.agg (av 3 (ls [.bool false, .int .u64 0, .int .u64 0]))) (fun _ => by kernel_rfl) ?_
            refine pl_put M (want_no rfl) rfl 24 _ _ rfl 0 g1 0 (by kernel_rfl) 3 24 (ls [.bool false, .int .u64 0, .int .u64 0]) rfl 3 (ls [.bool false, .int .u64 0, .int .u64 0]) (ls [.bool false, .int .u64 0, .int .u64 0]) (by kernel_rfl) inz24 (by decide) (one_ls _ rfl) (fun j hj => by rw [if_pos (by omega), Nat.sub_zero]) ?_
            intro u6 M
            replace M : Mem ⟨w, []⟩ [⟨g1, .cells (av 3 (ls [.bool false, .int .u64 0, .int .u64 0])) 24⟩, ⟨gl1, Z1⟩, ⟨gl2, Z2⟩, ⟨g2, .cells (av 8 (w16 (fun _ => 0))) 94⟩] u6 := M
            refine pl_val (want_no rfl) (some 3) rfl (.bool false) (fun _ => by kernel_rfl) ?_
            refine pl_nil ?_
            refine au_then ?_
            refine wp_ret ?_
            refine au_then_ret ?_
            have e0 : (lk6 s).isSome = false := by rw [(show lk6 s = none by unfold lk6; rw [hN1, hN2]; exact if_pos (by omega))]; rfl
            have e1 : ((lk6 s).getD (0, 0)).1 = 0 := by rw [(show lk6 s = none by unfold lk6; rw [hN1, hN2]; exact if_pos (by omega))]; rfl
            have e2 : ((lk6 s).getD (0, 0)).2 = 0 := by rw [(show lk6 s = none by unfold lk6; rw [hN1, hN2]; exact if_pos (by omega))]; rfl
            exact bodyPost_ret (v := .tuple #[.agg (av 3 (ls [.bool false, .int .u64 0, .int .u64 0])), .bool false]) (results_cell_tmp Tryz.results69 _ _ g1 24 (av 3 (ls [.bool false, .int .u64 0, .int .u64 0])) (0, 0) _ _ (by kernel_rfl) (by kernel_rfl) (M.get 0 rfl) Tryz.underlying24 rfl (by rw [av_size]; exact inz24)) (by kernel_rfl) ⟨by rw [e0, e1, e2], below_grown M.old⟩
          · skip
            refine pl_val (want_on 6 false rfl 34 rfl (by kernel_rfl)) (some 40) rfl (.bool false) (fun w => Eq.trans (b := .ok (.value (.bool (decide (8 < (((l1.length : Nat) : Int) + ((l2.length : Nat) : Int)))))) w) (by kernel_rfl) (by rw [decide_eq_false (c4)])) ?_
            refine pl_val (want_no rfl) (some 41) rfl (.bool false) (fun _ => by kernel_rfl) ?_
            refine pl_nil ?_
            refine au_then ?_
            refine wp_cond_false (by kernel_rfl) ?_
            refine wp_skip ?_
            refine au_then ?_
            refine wp_seq ?_
            refine rg_lit ?_
            refine pl_val (want_no rfl) (some 43) rfl (.slice (some ⟨g2, 0, none⟩) 8 8) (fun _ => by kernel_rfl) ?_
            refine pl_val (want_no rfl) (some 44) rfl (.slice (some ⟨gl1, 0, none⟩) l1.length cp1) (fun _ => by kernel_rfl) ?_
            refine pl_copyC M (want_no rfl) (some 45) rfl 99 99 3 32 Tryz.underlying99 inz32 3 g2 8 94 (w16 (fun _ => 0)) rfl gl1 (w16 (tgi l1)) 0 8 8 0 l1.length cp1 l1.length (by show _ = min _ _; omega) (by omega) (fun w M j hj => by rw [Nat.zero_add]; exact hZ1.cell (M.get 1 rfl) (v16_at _ _ hj)) (fun _ => rfl) (w16 (cpl (fun _ => 0) 0 l1)) (fun j _ => cpl_w16 _ _ _ j) (fun _ => by kernel_rfl) ?_
            intro u6 M
            replace M : Mem ⟨w, []⟩ [⟨g1, .cells (av 3 (ls [.bool false, .int .u64 0, .int .u64 0])) 24⟩, ⟨gl1, Z1⟩, ⟨gl2, Z2⟩, ⟨g2, .cells (av 8 (w16 (cpl (fun _ => 0) 0 l1))) 94⟩] u6 := M
            refine pl_nil ?_
            refine au_then ?_
            refine wp_seq ?_
            refine rg_lit ?_
            refine pl_val (want_no rfl) (some 46) rfl (.slice (some ⟨gl2, 0, none⟩) l2.length cp2) (fun _ => by kernel_rfl) ?_
            refine pl_val (want_no rfl) (some 47) rfl (.int .i64 ((l2.length : Nat) : Int)) (fun _ => by kernel_rfl) ?_
            refine pl_val (want_no rfl) (some 48) rfl (.int .i64 ((8 - l2.length : Nat) : Int)) (fun w => Eq.trans (b := .ok (.value (.int .i64 (cv .i64 (8 - ((l2.length : Nat) : Int))))) w) (by kernel_rfl) (by rw [cv_i64 (by omega) (by omega)]; congr 3; omega)) ?_
            refine pl_val (want_no rfl) (some 49) rfl (.slice (some ⟨g2, (8 - l2.length), none⟩) (8 - (8 - l2.length)) (8 - (8 - l2.length))) (fun w => (run_slAL 94 32 Tryz.underlying94 inz32 _ _ rfl g2 (by kernel_rfl) .i64 (8 - l2.length) (by kernel_rfl) (by omega) w).trans (by rw [show so (8 - l2.length) = 8 - l2.length from if_neg (by have := List.length_pos_iff.2 he2; omega)])) ?_
            refine pl_val (want_no rfl) (some 50) rfl (.slice (some ⟨gl2, 0, none⟩) l2.length cp2) (fun _ => by kernel_rfl) ?_
            refine pl_copyC M (want_no rfl) (some 51) rfl 99 99 3 32 Tryz.underlying99 inz32 3 g2 8 94 (w16 (cpl (fun _ => 0) 0 l1)) rfl gl2 (w16 (tgi l2)) (8 - l2.length) (8 - (8 - l2.length)) (8 - (8 - l2.length)) 0 l2.length cp2 l2.length (by show _ = min _ _; omega) (by omega) (fun w M j hj => by rw [Nat.zero_add]; exact hZ2.cell (M.get 2 rfl) (v16_at _ _ hj)) (fun _ => rfl) (w16 (cpl (cpl (fun _ => 0) 0 l1) (8 - l2.length) l2)) (fun j _ => cpl_w16 _ _ _ j) (fun _ => by kernel_rfl) ?_
            intro u7 M
            replace M : Mem ⟨w, []⟩ [⟨g1, .cells (av 3 (ls [.bool false, .int .u64 0, .int .u64 0])) 24⟩, ⟨gl1, Z1⟩, ⟨gl2, Z2⟩, ⟨g2, .cells (av 8 (w16 (cpl (cpl (fun _ => 0) 0 l1) (8 - l2.length) l2))) 94⟩] u7 := M
            refine pl_nil ?_
            refine au_then ?_
            refine wp_seq ?_
            refine rg_lit ?_
            refine pl_load M (want_no rfl) (some 52) rfl 94 _ rfl 3 g2 0 (by kernel_rfl) 8 94 (w16 (cpl (cpl (fun _ => 0) 0 l1) (8 - l2.length) l2)) rfl 8 (w16 (cpl (cpl (fun _ => 0) 0 l1) (8 - l2.length) l2)) (fun j _ => by rw [Nat.zero_add]) (by decide) _ Tryz.underlying94 rfl inz94 ?_
            refine pl_call M (want_no rfl) (some 53) rfl 90 #[.agg (av 8 (w16 (cpl (cpl (fun _ => 0) 0 l1) (8 - l2.length) l2)))] (.agg (av 3 (ls [.bool true, .int .u64 (adH (cpl (cpl (fun _ => 0) 0 l1) (8 - l2.length) l2)), .int .u64 (adL (cpl (cpl (fun _ => 0) 0 l1) (8 - l2.length) l2))]))) (fun _ => by kernel_rfl) (fun w M => c_addr (cpl (cpl (fun _ => 0) 0 l1) (8 - l2.length) l2) w M.laid) ?_
            intro u8 M
            refine pl_put M (want_no rfl) rfl 24 _ _ rfl 0 g1 0 (by kernel_rfl) 3 24 (ls [.bool false, .int .u64 0, .int .u64 0]) rfl 3 (ls [.bool true, .int .u64 (adH (cpl (cpl (fun _ => 0) 0 l1) (8 - l2.length) l2)), .int .u64 (adL (cpl (cpl (fun _ => 0) 0 l1) (8 - l2.length) l2))]) (ls [.bool true, .int .u64 (adH (cpl (cpl (fun _ => 0) 0 l1) (8 - l2.length) l2)), .int .u64 (adL (cpl (cpl (fun _ => 0) 0 l1) (8 - l2.length) l2))]) (by kernel_rfl) inz24 (by decide) (one_ls _ rfl) (fun j hj => by rw [if_pos (by omega), Nat.sub_zero]) ?_
            intro u9 M
            replace M : Mem ⟨w, []⟩ [⟨g1, .cells (av 3 (ls [.bool true, .int .u64 (adH (cpl (cpl (fun _ => 0) 0 l1) (8 - l2.length) l2)), .int .u64 (adL (cpl (cpl (fun _ => 0) 0 l1) (8 - l2.length) l2))])) 24⟩, ⟨gl1, Z1⟩, ⟨gl2, Z2⟩, ⟨g2, .cells (av 8 (w16 (cpl (cpl (fun _ => 0) 0 l1) (8 - l2.length) l2))) 94⟩] u9 := M
            refine pl_val (want_no rfl) (some 3) rfl (.bool true) (fun _ => by kernel_rfl) ?_
            refine pl_nil ?_
            refine au_then ?_
            refine wp_ret ?_
            have e0 : (lk6 s).isSome = true := by rw [(show lk6 s = some (adH (g6 l1 l2), adL (g6 l1 l2)) by unfold lk6; rw [hN1, hN2]; exact if_neg (by omega))]; rfl
            have e1 : ((lk6 s).getD (0, 0)).1 = (adH (cpl (cpl (fun _ => 0) 0 l1) (8 - l2.length) l2)) := by rw [(show lk6 s = some (adH (g6 l1 l2), adL (g6 l1 l2)) by unfold lk6; rw [hN1, hN2]; exact if_neg (by omega))]; show adH (g6 l1 l2) = _; unfold g6; rfl
            have e2 : ((lk6 s).getD (0, 0)).2 = (adL (cpl (cpl (fun _ => 0) 0 l1) (8 - l2.length) l2)) := by rw [(show lk6 s = some (adH (g6 l1 l2), adL (g6 l1 l2)) by unfold lk6; rw [hN1, hN2]; exact if_neg (by omega))]; show adL (g6 l1 l2) = _; unfold g6; rfl
            exact bodyPost_ret (v := .tuple #[.agg (av 3 (ls [.bool true, .int .u64 (adH (cpl (cpl (fun _ => 0) 0 l1) (8 - l2.length) l2)), .int .u64 (adL (cpl (cpl (fun _ => 0) 0 l1) (8 - l2.length) l2))])), .bool true]) (results_cell_tmp Tryz.results69 _ _ g1 24 (av 3 (ls [.bool true, .int .u64 (adH (cpl (cpl (fun _ => 0) 0 l1) (8 - l2.length) l2)), .int .u64 (adL (cpl (cpl (fun _ => 0) 0 l1) (8 - l2.length) l2))])) (0, 0) _ _ (by kernel_rfl) (by kernel_rfl) (M.get 0 rfl) Tryz.underlying24 rfl (by rw [av_size]; exact inz24)) (by kernel_rfl) ⟨by rw [e0, e1, e2], below_grown M.old⟩


end Go.Proofs.YtndonmdgplojnaaGreatDoor

/- Texts that are read: likely, Read, ReadPrefix. -/
namespace Go.Proofs.YtndonmdgplojnaaGreatDoor
open Go.RowKit

def lV (s : ByteArray) : Bool := if (39 : Int) < (s.size : Int) then false else if ctn s ⟨#[58]⟩ = true then (lk6 s).isSome else false
def lH (s : ByteArray) : Int := if (39 : Int) < (s.size : Int) then 0 else if ctn s ⟨#[58]⟩ = true then ((lk6 s).getD (0, 0)).1 else 0
def lL (s : ByteArray) : Int := if (39 : Int) < (s.size : Int) then 0 else if ctn s ⟨#[58]⟩ = true then ((lk6 s).getD (0, 0)).2 else (lk4 s).getD 0
def lI (s : ByteArray) : Bool := if (39 : Int) < (s.size : Int) then false else if ctn s ⟨#[58]⟩ = true then (lk6 s).isSome else (lk4 s).isSome
def rdE (s : ByteArray) : Int := if lI s = true then (if txt (lV s) (lH s) (lL s) = s then 0 else 8) else 8
set_option maxRecDepth 100000 in
set_option maxHeartbeats 4000000 in
set_option linter.unusedSimpArgs false in
theorem c_likely (s : ByteArray) (w : World) (hL : Laid w)  :
    Calls Tryz.prog 44 #[.string s] w fun r w' => r = .returned (.tuple #[.agg (av 3 (ls [.bool (lV s), .int .u64 (lH s), .int .u64 (lL s)])), .bool ((lI s))]) ∧ Below w.heap.size w w' := by
  go_enter Tryz.func44, Tryz.ntmps44
  have M := Mem.start hL
  refine wp_seq ?_
  refine rg_lit ?_
  refine pl_new M (want_no rfl) (some 2) rfl (.cells (av 3 (ls [.bool false, .int .u64 0, .int .u64 0])) 24) (fun _ => by kernel_rfl) ?_
  intro g1 u1 M
  replace M : Mem ⟨w, []⟩ [⟨g1, .cells (av 3 (ls [.bool false, .int .u64 0, .int .u64 0])) 24⟩] u1 := M
  refine pl_val (want_no rfl) (some 3) rfl (.bool false) (fun _ => by kernel_rfl) ?_
  refine pl_nil ?_
  refine au_then ?_
  refine wp_seq ?_
  refine wp_block ?_
  refine wp_seq ?_
  refine rg_lit ?_
  refine pl_val (want_no rfl) (some 5) rfl (.string s) (fun _ => by kernel_rfl) ?_
  refine pl_val (want_no rfl) (some 6) rfl (.int .i64 (s.size : Int)) (fun _ => by kernel_rfl) ?_
  by_cases c0 : 39 < (s.size : Int)
  · skip
    refine pl_val (want_no rfl) (some 7) rfl (.bool true) (fun w => Eq.trans (b := .ok (.value (.bool (decide (39 < (s.size : Int))))) w) (by kernel_rfl) (by rw [decide_eq_true (c0)])) ?_
    refine pl_val (want_no rfl) (some 4) rfl (.bool true) (fun _ => by kernel_rfl) ?_
    refine pl_nil ?_
    refine au_then ?_
    refine wp_cond_true (by kernel_rfl) ?_
    refine wp_seq ?_
    refine rg_lit ?_
    refine pl_val (want_no rfl) (some 8) rfl (.agg (av 3 (ls [.bool false, .int .u64 0, .int .u64 0]))) (fun _ => by kernel_rfl) ?_
    refine pl_put M (want_no rfl) rfl 24 _ _ rfl 0 g1 0 (by kernel_rfl) 3 24 (ls [.bool false, .int .u64 0, .int .u64 0]) rfl 3 (ls [.bool false, .int .u64 0, .int .u64 0]) (ls [.bool false, .int .u64 0, .int .u64 0]) (by kernel_rfl) inz24 (by decide) (one_ls _ rfl) (fun j hj => by rw [if_pos (by omega), Nat.sub_zero]) ?_
    intro u2 M
    replace M : Mem ⟨w, []⟩ [⟨g1, .cells (av 3 (ls [.bool false, .int .u64 0, .int .u64 0])) 24⟩] u2 := M
    refine pl_val (want_no rfl) (some 3) rfl (.bool false) (fun _ => by kernel_rfl) ?_
    refine pl_nil ?_
    refine au_then ?_
    refine wp_ret ?_
    refine au_block_ret ?_
    refine au_then_ret ?_
    have e0 : lV s = false := by unfold lV; rw [if_pos c0]
    have e1 : (lH s) = 0 := by unfold lH; rw [if_pos c0]
    have e2 : (lL s) = 0 := by unfold lL; rw [if_pos c0]
    have e3 : (lI s) = false := by unfold lI; rw [if_pos c0]
    exact bodyPost_ret (v := .tuple #[.agg (av 3 (ls [.bool false, .int .u64 0, .int .u64 0])), .bool false]) (results_cell_tmp Tryz.results44 _ _ g1 24 (av 3 (ls [.bool false, .int .u64 0, .int .u64 0])) (0, 0) _ _ (by kernel_rfl) (by kernel_rfl) (M.get 0 rfl) Tryz.underlying24 rfl (by rw [av_size]; exact inz24)) (by kernel_rfl) ⟨by rw [e0, e1, e2, e3], below_grown M.old⟩
  · skip
    refine pl_val (want_no rfl) (some 7) rfl (.bool false) (fun w => Eq.trans (b := .ok (.value (.bool (decide (39 < (s.size : Int))))) w) (by kernel_rfl) (by rw [decide_eq_false (c0)])) ?_
    refine pl_val (want_no rfl) (some 4) rfl (.bool false) (fun _ => by kernel_rfl) ?_
    refine pl_nil ?_
    refine au_then ?_
    refine wp_cond_false (by kernel_rfl) ?_
    refine wp_seq ?_
    refine rg_lit ?_
    refine pl_val (want_no rfl) (some 10) rfl (.string s) (fun _ => by kernel_rfl) ?_
    rcases Bool.eq_false_or_eq_true (ctn s ⟨#[58]⟩) with c1 | c1
    · skip
      refine pl_call M (want_no rfl) (some 11) rfl 68 #[.string s, .string ⟨#[58]⟩] (.bool true) (fun _ => by kernel_rfl) (fun w M => call_val (c_Contains s ⟨#[58]⟩ (by omega) w M.laid) (congrArg Value.bool c1)) ?_
      intro u2 M
      refine pl_val (want_no rfl) (some 9) rfl (.bool true) (fun _ => by kernel_rfl) ?_
      refine pl_nil ?_
      refine au_then ?_
      refine wp_cond_true (by kernel_rfl) ?_
      refine wp_seq ?_
      refine rg_lit ?_
      refine pl_val (want_no rfl) (some 12) rfl (.string s) (fun _ => by kernel_rfl) ?_
      refine pl_call M (want_no rfl) (some 13) rfl 69 #[.string s] (.tuple #[.agg (av 3 (ls [.bool ((lk6 s).isSome), .int .u64 ((lk6 s).getD (0, 0)).1, .int .u64 ((lk6 s).getD (0, 0)).2])), .bool (lk6 s).isSome]) (fun _ => by kernel_rfl) (fun w M => c_likely6 s (by omega) w M.laid) ?_
      intro u3 M
      refine pl_val (want_no rfl) (some 14) rfl (.agg (av 3 (ls [.bool ((lk6 s).isSome), .int .u64 ((lk6 s).getD (0, 0)).1, .int .u64 ((lk6 s).getD (0, 0)).2]))) (fun _ => by kernel_rfl) ?_
      refine pl_val (want_no rfl) (some 15) rfl (.bool (lk6 s).isSome) (fun _ => by kernel_rfl) ?_
      refine pl_put M (want_no rfl) rfl 24 _ _ rfl 0 g1 0 (by kernel_rfl) 3 24 (ls [.bool false, .int .u64 0, .int .u64 0]) rfl 3 (ls [.bool ((lk6 s).isSome), .int .u64 ((lk6 s).getD (0, 0)).1, .int .u64 ((lk6 s).getD (0, 0)).2]) (ls [.bool ((lk6 s).isSome), .int .u64 ((lk6 s).getD (0, 0)).1, .int .u64 ((lk6 s).getD (0, 0)).2]) (by kernel_rfl) inz24 (by decide) (one_ls _ rfl) (fun j hj => by rw [if_pos (by omega), Nat.sub_zero]) ?_
      intro u4 M
      replace M : Mem ⟨w, []⟩ [⟨g1, .cells (av 3 (ls [.bool ((lk6 s).isSome), .int .u64 ((lk6 s).getD (0, 0)).1, .int .u64 ((lk6 s).getD (0, 0)).2])) 24⟩] u4 := M
      refine pl_val (want_no rfl) (some 3) rfl (.bool (lk6 s).isSome) (fun _ => by kernel_rfl) ?_
      refine pl_nil ?_
      refine au_then ?_
      refine wp_ret ?_
      refine au_block_ret ?_
      refine au_then_ret ?_
      have e0 : lV s = (lk6 s).isSome := by unfold lV; rw [if_neg c0, if_pos c1]
      have e1 : (lH s) = ((lk6 s).getD (0, 0)).1 := by unfold lH; rw [if_neg c0, if_pos c1]
      have e2 : (lL s) = ((lk6 s).getD (0, 0)).2 := by unfold lL; rw [if_neg c0, if_pos c1]
      have e3 : (lI s) = (lk6 s).isSome := by unfold lI; rw [if_neg c0, if_pos c1]
      exact bodyPost_ret (v := .tuple #[.agg (av 3 (ls [.bool ((lk6 s).isSome), .int .u64 ((lk6 s).getD (0, 0)).1, .int .u64 ((lk6 s).getD (0, 0)).2])), .bool (lk6 s).isSome]) (results_cell_tmp Tryz.results44 _ _ g1 24 (av 3 (ls [.bool ((lk6 s).isSome), .int .u64 ((lk6 s).getD (0, 0)).1, .int .u64 ((lk6 s).getD (0, 0)).2])) (0, 0) _ _ (by kernel_rfl) (by kernel_rfl) (M.get 0 rfl) Tryz.underlying24 rfl (by rw [av_size]; exact inz24)) (by kernel_rfl) ⟨by rw [e0, e1, e2, e3], below_grown M.old⟩
    · skip
      refine pl_call M (want_no rfl) (some 11) rfl 68 #[.string s, .string ⟨#[58]⟩] (.bool false) (fun _ => by kernel_rfl) (fun w M => call_val (c_Contains s ⟨#[58]⟩ (by omega) w M.laid) (congrArg Value.bool c1)) ?_
      intro u2 M
      refine pl_val (want_no rfl) (some 9) rfl (.bool false) (fun _ => by kernel_rfl) ?_
      refine pl_nil ?_
      refine au_then ?_
      refine wp_cond_false (by kernel_rfl) ?_
      refine wp_skip ?_
      refine au_block ?_
      refine au_then ?_
      refine wp_seq ?_
      refine rg_lit ?_
      refine pl_val (want_no rfl) (some 16) rfl (.string s) (fun _ => by kernel_rfl) ?_
      refine pl_call M (want_no rfl) (some 17) rfl 70 #[.string s] (.tuple #[.agg (av 3 (ls [.bool false, .int .u64 0, .int .u64 ((lk4 s).getD 0)])), .bool (lk4 s).isSome]) (fun _ => by kernel_rfl) (fun w M => c_likely4 s (by omega) w M.laid) ?_
      intro u3 M
      refine pl_val (want_no rfl) (some 18) rfl (.agg (av 3 (ls [.bool false, .int .u64 0, .int .u64 ((lk4 s).getD 0)]))) (fun _ => by kernel_rfl) ?_
      refine pl_val (want_no rfl) (some 19) rfl (.bool (lk4 s).isSome) (fun _ => by kernel_rfl) ?_
      refine pl_put M (want_no rfl) rfl 24 _ _ rfl 0 g1 0 (by kernel_rfl) 3 24 (ls [.bool false, .int .u64 0, .int .u64 0]) rfl 3 (ls [.bool false, .int .u64 0, .int .u64 ((lk4 s).getD 0)]) (ls [.bool false, .int .u64 0, .int .u64 ((lk4 s).getD 0)]) (by kernel_rfl) inz24 (by decide) (one_ls _ rfl) (fun j hj => by rw [if_pos (by omega), Nat.sub_zero]) ?_
      intro u4 M
      replace M : Mem ⟨w, []⟩ [⟨g1, .cells (av 3 (ls [.bool false, .int .u64 0, .int .u64 ((lk4 s).getD 0)])) 24⟩] u4 := M
      refine pl_val (want_no rfl) (some 3) rfl (.bool (lk4 s).isSome) (fun _ => by kernel_rfl) ?_
      refine pl_nil ?_
      refine au_then ?_
      refine wp_ret ?_
      have e0 : lV s = false := by unfold lV; rw [if_neg c0, if_neg (by rw [c1]; decide)]
      have e1 : (lH s) = 0 := by unfold lH; rw [if_neg c0, if_neg (by rw [c1]; decide)]
      have e2 : (lL s) = ((lk4 s).getD 0) := by unfold lL; rw [if_neg c0, if_neg (by rw [c1]; decide)]
      have e3 : (lI s) = (lk4 s).isSome := by unfold lI; rw [if_neg c0, if_neg (by rw [c1]; decide)]
      exact bodyPost_ret (v := .tuple #[.agg (av 3 (ls [.bool false, .int .u64 0, .int .u64 ((lk4 s).getD 0)])), .bool (lk4 s).isSome]) (results_cell_tmp Tryz.results44 _ _ g1 24 (av 3 (ls [.bool false, .int .u64 0, .int .u64 ((lk4 s).getD 0)])) (0, 0) _ _ (by kernel_rfl) (by kernel_rfl) (M.get 0 rfl) Tryz.underlying24 rfl (by rw [av_size]; exact inz24)) (by kernel_rfl) ⟨by rw [e0, e1, e2, e3], below_grown M.old⟩

set_option maxRecDepth 100000 in
set_option maxHeartbeats 4000000 in
set_option linter.unusedSimpArgs false in
theorem c_Read (s : ByteArray) (w : World) (hL : Laid w)  :
    Calls Tryz.prog 18 #[.string s] w fun r w' => r = .returned (.tuple #[.agg (av 3 (ls [.bool (zB (rdE s) (lV s)), .int .u64 (zI (rdE s) (lH s)), .int .u64 (zI (rdE s) (lL s))])), .int .i64 (rdE s)]) ∧ Below w.heap.size w w' := by
  go_enter Tryz.func18, Tryz.ntmps18
  have M := Mem.start hL
  refine wp_seq ?_
  refine rg_lit ?_
  refine pl_new M (want_no rfl) (some 2) rfl (.cells (av 3 (ls [.bool false, .int .u64 0, .int .u64 0])) 24) (fun _ => by kernel_rfl) ?_
  intro g1 u1 M
  replace M : Mem ⟨w, []⟩ [⟨g1, .cells (av 3 (ls [.bool false, .int .u64 0, .int .u64 0])) 24⟩] u1 := M
  refine pl_val (want_no rfl) (some 3) rfl (.int .i64 0) (fun _ => by kernel_rfl) ?_
  refine pl_nil ?_
  refine au_then ?_
  refine wp_seq ?_
  refine wp_seq ?_
  refine rg_lit ?_
  refine pl_val (want_no rfl) (some 7) rfl (.string s) (fun _ => by kernel_rfl) ?_
  rcases Bool.eq_false_or_eq_true (lI s) with c0 | c0
  · skip
    refine pl_call M (want_no rfl) (some 8) rfl 44 #[.string s] (.tuple #[.agg (av 3 (ls [.bool (lV s), .int .u64 (lH s), .int .u64 (lL s)])), .bool true]) (fun _ => by kernel_rfl) (fun w M => call_val (c_likely s w M.laid) (by rw [c0])) ?_
    intro u2 M
    refine pl_val (want_no rfl) (some 6) rfl (.tuple #[.agg (av 3 (ls [.bool (lV s), .int .u64 (lH s), .int .u64 (lL s)])), .bool true]) (fun _ => by kernel_rfl) ?_
    refine pl_val (want_no rfl) (some 9) rfl (.agg (av 3 (ls [.bool (lV s), .int .u64 (lH s), .int .u64 (lL s)]))) (fun _ => by kernel_rfl) ?_
    refine pl_val (want_no rfl) (some 10) rfl (.bool true) (fun _ => by kernel_rfl) ?_
    refine pl_new M (want_no rfl) (some 4) rfl (.cells (av 3 (ls [.bool false, .int .u64 0, .int .u64 0])) 24) (fun _ => by kernel_rfl) ?_
    intro g2 u3 M
    replace M : Mem ⟨w, []⟩ [⟨g1, .cells (av 3 (ls [.bool false, .int .u64 0, .int .u64 0])) 24⟩, ⟨g2, .cells (av 3 (ls [.bool false, .int .u64 0, .int .u64 0])) 24⟩] u3 := M
    refine pl_put M (want_no rfl) rfl 24 _ _ rfl 1 g2 0 (by kernel_rfl) 3 24 (ls [.bool false, .int .u64 0, .int .u64 0]) rfl 3 (ls [.bool (lV s), .int .u64 (lH s), .int .u64 (lL s)]) (ls [.bool (lV s), .int .u64 (lH s), .int .u64 (lL s)]) (by kernel_rfl) inz24 (by decide) (one_ls _ rfl) (fun j hj => by rw [if_pos (by omega), Nat.sub_zero]) ?_
    intro u4 M
    replace M : Mem ⟨w, []⟩ [⟨g1, .cells (av 3 (ls [.bool false, .int .u64 0, .int .u64 0])) 24⟩, ⟨g2, .cells (av 3 (ls [.bool (lV s), .int .u64 (lH s), .int .u64 (lL s)])) 24⟩] u4 := M
    refine pl_val (want_no rfl) (some 5) rfl (.bool true) (fun _ => by kernel_rfl) ?_
    refine pl_nil ?_
    refine au_then ?_
    refine wp_seq ?_
    refine rg_lit ?_
    refine pl_val (want_no rfl) (some 11) rfl (.bool true) (fun _ => by kernel_rfl) ?_
    refine pl_val (want_no rfl) (some 12) rfl (.bool true) (fun _ => by kernel_rfl) ?_
    refine pl_load M (want_on 1 true rfl 12 rfl (by kernel_rfl)) (some 13) rfl 24 _ rfl 1 g2 0 (by kernel_rfl) 3 24 (ls [.bool (lV s), .int .u64 (lH s), .int .u64 (lL s)]) rfl 3 (ls [.bool (lV s), .int .u64 (lH s), .int .u64 (lL s)]) (fun j _ => by rw [Nat.zero_add]) (by decide) _ Tryz.underlying24 rfl inz24 ?_
    refine pl_call M (want_on 1 true rfl 12 rfl (by kernel_rfl)) (some 14) rfl 22 #[.agg (av 3 (ls [.bool (lV s), .int .u64 (lH s), .int .u64 (lL s)]))] (.string (txt (lV s) (lH s) (lL s))) (fun _ => by kernel_rfl) (fun w M => c_Text (lV s) (lH s) (lL s) w M.laid) ?_
    intro u5 M
    refine pl_val (want_on 1 true rfl 12 rfl (by kernel_rfl)) (some 15) rfl (.string s) (fun _ => by kernel_rfl) ?_
    by_cases c1 : (txt (lV s) (lH s) (lL s)) = s
    · skip
      refine pl_val (want_on 1 true rfl 12 rfl (by kernel_rfl)) (some 16) rfl (.bool true) (fun w => Eq.trans (b := .ok (.value (.bool ((txt (lV s) (lH s) (lL s)).toList == s.toList))) w) (by kernel_rfl) (by rw [seq_pos c1])) ?_
      refine pl_val (want_no rfl) (some 17) rfl (.bool true) (fun _ => by kernel_rfl) ?_
      refine pl_nil ?_
      refine au_then ?_
      refine wp_cond_true (by kernel_rfl) ?_
      refine wp_seq ?_
      refine rg_lit ?_
      refine pl_load M (want_no rfl) (some 18) rfl 24 _ rfl 1 g2 0 (by kernel_rfl) 3 24 (ls [.bool (lV s), .int .u64 (lH s), .int .u64 (lL s)]) rfl 3 (ls [.bool (lV s), .int .u64 (lH s), .int .u64 (lL s)]) (fun j _ => by rw [Nat.zero_add]) (by decide) _ Tryz.underlying24 rfl inz24 ?_
      refine pl_put M (want_no rfl) rfl 24 _ _ rfl 0 g1 0 (by kernel_rfl) 3 24 (ls [.bool false, .int .u64 0, .int .u64 0]) rfl 3 (ls [.bool (lV s), .int .u64 (lH s), .int .u64 (lL s)]) (ls [.bool (lV s), .int .u64 (lH s), .int .u64 (lL s)]) (by kernel_rfl) inz24 (by decide) (one_ls _ rfl) (fun j hj => by rw [if_pos (by omega), Nat.sub_zero]) ?_
      intro u6 M
      replace M : Mem ⟨w, []⟩ [⟨g1, .cells (av 3 (ls [.bool (lV s), .int .u64 (lH s), .int .u64 (lL s)])) 24⟩, ⟨g2, .cells (av 3 (ls [.bool (lV s), .int .u64 (lH s), .int .u64 (lL s)])) 24⟩] u6 := M
      refine pl_val (want_no rfl) (some 3) rfl (.int .i64 0) (fun _ => by kernel_rfl) ?_
      refine pl_nil ?_
      refine au_then ?_
      refine wp_ret ?_
      refine au_then_ret ?_
      have e0 : zB (rdE s) (lV s) = lV s := by rw [(show rdE s = 0 by unfold rdE; rw [if_pos c0, if_pos c1])]; rfl
      have e1 : (zI (rdE s) (lH s)) = (lH s) := by rw [(show rdE s = 0 by unfold rdE; rw [if_pos c0, if_pos c1])]; rfl
      have e2 : (zI (rdE s) (lL s)) = (lL s) := by rw [(show rdE s = 0 by unfold rdE; rw [if_pos c0, if_pos c1])]; rfl
      have e3 : (rdE s) = 0 := (show rdE s = 0 by unfold rdE; rw [if_pos c0, if_pos c1])
      exact bodyPost_ret (v := .tuple #[.agg (av 3 (ls [.bool (lV s), .int .u64 (lH s), .int .u64 (lL s)])), .int .i64 0]) (results_cell_tmp Tryz.results18 _ _ g1 24 (av 3 (ls [.bool (lV s), .int .u64 (lH s), .int .u64 (lL s)])) (0, 0) _ _ (by kernel_rfl) (by kernel_rfl) (M.get 0 rfl) Tryz.underlying24 rfl (by rw [av_size]; exact inz24)) (by kernel_rfl) ⟨by rw [e0, e1, e2, e3], below_grown M.old⟩
    · skip
      refine pl_val (want_on 1 true rfl 12 rfl (by kernel_rfl)) (some 16) rfl (.bool false) (fun w => Eq.trans (b := .ok (.value (.bool ((txt (lV s) (lH s) (lL s)).toList == s.toList))) w) (by kernel_rfl) (by rw [seq_neg c1])) ?_
      refine pl_val (want_no rfl) (some 17) rfl (.bool false) (fun _ => by kernel_rfl) ?_
      refine pl_nil ?_
      refine au_then ?_
      refine wp_cond_false (by kernel_rfl) ?_
      refine wp_skip ?_
      refine au_then ?_
      refine wp_seq ?_
      refine rg_lit ?_
      refine pl_val (want_no rfl) (some 19) rfl (.agg (av 3 (ls [.bool false, .int .u64 0, .int .u64 0]))) (fun _ => by kernel_rfl) ?_
      refine pl_put M (want_no rfl) rfl 24 _ _ rfl 0 g1 0 (by kernel_rfl) 3 24 (ls [.bool false, .int .u64 0, .int .u64 0]) rfl 3 (ls [.bool false, .int .u64 0, .int .u64 0]) (ls [.bool false, .int .u64 0, .int .u64 0]) (by kernel_rfl) inz24 (by decide) (one_ls _ rfl) (fun j hj => by rw [if_pos (by omega), Nat.sub_zero]) ?_
      intro u6 M
      replace M : Mem ⟨w, []⟩ [⟨g1, .cells (av 3 (ls [.bool false, .int .u64 0, .int .u64 0])) 24⟩, ⟨g2, .cells (av 3 (ls [.bool (lV s), .int .u64 (lH s), .int .u64 (lL s)])) 24⟩] u6 := M
      refine pl_val (want_no rfl) (some 3) rfl (.int .i64 8) (fun _ => by kernel_rfl) ?_
      refine pl_nil ?_
      refine au_then ?_
      refine wp_ret ?_
      have e0 : zB (rdE s) (lV s) = false := by rw [(show rdE s = 8 by unfold rdE; rw [if_pos c0, if_neg c1])]; rfl
      have e1 : (zI (rdE s) (lH s)) = 0 := by rw [(show rdE s = 8 by unfold rdE; rw [if_pos c0, if_neg c1])]; rfl
      have e2 : (zI (rdE s) (lL s)) = 0 := by rw [(show rdE s = 8 by unfold rdE; rw [if_pos c0, if_neg c1])]; rfl
      have e3 : (rdE s) = 8 := (show rdE s = 8 by unfold rdE; rw [if_pos c0, if_neg c1])
      exact bodyPost_ret (v := .tuple #[.agg (av 3 (ls [.bool false, .int .u64 0, .int .u64 0])), .int .i64 8]) (results_cell_tmp Tryz.results18 _ _ g1 24 (av 3 (ls [.bool false, .int .u64 0, .int .u64 0])) (0, 0) _ _ (by kernel_rfl) (by kernel_rfl) (M.get 0 rfl) Tryz.underlying24 rfl (by rw [av_size]; exact inz24)) (by kernel_rfl) ⟨by rw [e0, e1, e2, e3], below_grown M.old⟩
  · skip
    refine pl_call M (want_no rfl) (some 8) rfl 44 #[.string s] (.tuple #[.agg (av 3 (ls [.bool (lV s), .int .u64 (lH s), .int .u64 (lL s)])), .bool false]) (fun _ => by kernel_rfl) (fun w M => call_val (c_likely s w M.laid) (by rw [c0])) ?_
    intro u2 M
    refine pl_val (want_no rfl) (some 6) rfl (.tuple #[.agg (av 3 (ls [.bool (lV s), .int .u64 (lH s), .int .u64 (lL s)])), .bool false]) (fun _ => by kernel_rfl) ?_
    refine pl_val (want_no rfl) (some 9) rfl (.agg (av 3 (ls [.bool (lV s), .int .u64 (lH s), .int .u64 (lL s)]))) (fun _ => by kernel_rfl) ?_
    refine pl_val (want_no rfl) (some 10) rfl (.bool false) (fun _ => by kernel_rfl) ?_
    refine pl_new M (want_no rfl) (some 4) rfl (.cells (av 3 (ls [.bool false, .int .u64 0, .int .u64 0])) 24) (fun _ => by kernel_rfl) ?_
    intro g2 u3 M
    replace M : Mem ⟨w, []⟩ [⟨g1, .cells (av 3 (ls [.bool false, .int .u64 0, .int .u64 0])) 24⟩, ⟨g2, .cells (av 3 (ls [.bool false, .int .u64 0, .int .u64 0])) 24⟩] u3 := M
    refine pl_put M (want_no rfl) rfl 24 _ _ rfl 1 g2 0 (by kernel_rfl) 3 24 (ls [.bool false, .int .u64 0, .int .u64 0]) rfl 3 (ls [.bool (lV s), .int .u64 (lH s), .int .u64 (lL s)]) (ls [.bool (lV s), .int .u64 (lH s), .int .u64 (lL s)]) (by kernel_rfl) inz24 (by decide) (one_ls _ rfl) (fun j hj => by rw [if_pos (by omega), Nat.sub_zero]) ?_
    intro u4 M
    replace M : Mem ⟨w, []⟩ [⟨g1, .cells (av 3 (ls [.bool false, .int .u64 0, .int .u64 0])) 24⟩, ⟨g2, .cells (av 3 (ls [.bool (lV s), .int .u64 (lH s), .int .u64 (lL s)])) 24⟩] u4 := M
    refine pl_val (want_no rfl) (some 5) rfl (.bool false) (fun _ => by kernel_rfl) ?_
    refine pl_nil ?_
    refine au_then ?_
    refine wp_seq ?_
    refine rg_lit ?_
    refine pl_val (want_no rfl) (some 11) rfl (.bool false) (fun _ => by kernel_rfl) ?_
    refine pl_val (want_no rfl) (some 12) rfl (.bool false) (fun _ => by kernel_rfl) ?_
    refine pl_skip (want_off 1 true rfl 12 rfl (by kernel_rfl)) (some 13) rfl ?_
    refine pl_skip (want_off 1 true rfl 12 rfl (by kernel_rfl)) (some 14) rfl ?_
    refine pl_skip (want_off 1 true rfl 12 rfl (by kernel_rfl)) (some 15) rfl ?_
    refine pl_skip (want_off 1 true rfl 12 rfl (by kernel_rfl)) (some 16) rfl ?_
    refine pl_val (want_no rfl) (some 17) rfl (.bool false) (fun _ => by kernel_rfl) ?_
    refine pl_nil ?_
    refine au_then ?_
    refine wp_cond_false (by kernel_rfl) ?_
    refine wp_skip ?_
    refine au_then ?_
    refine wp_seq ?_
    refine rg_lit ?_
    refine pl_val (want_no rfl) (some 19) rfl (.agg (av 3 (ls [.bool false, .int .u64 0, .int .u64 0]))) (fun _ => by kernel_rfl) ?_
    refine pl_put M (want_no rfl) rfl 24 _ _ rfl 0 g1 0 (by kernel_rfl) 3 24 (ls [.bool false, .int .u64 0, .int .u64 0]) rfl 3 (ls [.bool false, .int .u64 0, .int .u64 0]) (ls [.bool false, .int .u64 0, .int .u64 0]) (by kernel_rfl) inz24 (by decide) (one_ls _ rfl) (fun j hj => by rw [if_pos (by omega), Nat.sub_zero]) ?_
    intro u5 M
    replace M : Mem ⟨w, []⟩ [⟨g1, .cells (av 3 (ls [.bool false, .int .u64 0, .int .u64 0])) 24⟩, ⟨g2, .cells (av 3 (ls [.bool (lV s), .int .u64 (lH s), .int .u64 (lL s)])) 24⟩] u5 := M
    refine pl_val (want_no rfl) (some 3) rfl (.int .i64 8) (fun _ => by kernel_rfl) ?_
    refine pl_nil ?_
    refine au_then ?_
    refine wp_ret ?_
    have e0 : zB (rdE s) (lV s) = false := by rw [(show rdE s = 8 by unfold rdE; rw [if_neg (by rw [c0]; decide)])]; rfl
    have e1 : (zI (rdE s) (lH s)) = 0 := by rw [(show rdE s = 8 by unfold rdE; rw [if_neg (by rw [c0]; decide)])]; rfl
    have e2 : (zI (rdE s) (lL s)) = 0 := by rw [(show rdE s = 8 by unfold rdE; rw [if_neg (by rw [c0]; decide)])]; rfl
    have e3 : (rdE s) = 8 := (show rdE s = 8 by unfold rdE; rw [if_neg (by rw [c0]; decide)])
    exact bodyPost_ret (v := .tuple #[.agg (av 3 (ls [.bool false, .int .u64 0, .int .u64 0])), .int .i64 8]) (results_cell_tmp Tryz.results18 _ _ g1 24 (av 3 (ls [.bool false, .int .u64 0, .int .u64 0])) (0, 0) _ _ (by kernel_rfl) (by kernel_rfl) (M.get 0 rfl) Tryz.underlying24 rfl (by rw [av_size]; exact inz24)) (by kernel_rfl) ⟨by rw [e0, e1, e2, e3], below_grown M.old⟩

def rpV (s : ByteArray) : Bool := zB (rdE (cuA s ⟨#[47]⟩)) (lV (cuA s ⟨#[47]⟩))
def rpH (s : ByteArray) : Int := zI (rdE (cuA s ⟨#[47]⟩)) (lH (cuA s ⟨#[47]⟩))
def rpL (s : ByteArray) : Int := zI (rdE (cuA s ⟨#[47]⟩)) (lL (cuA s ⟨#[47]⟩))
def rpB (s : ByteArray) : Int := (nmb 10 255 (cuB s ⟨#[47]⟩)).getD 0
def rpE (s : ByteArray) : Int := if rdE (cuA s ⟨#[47]⟩) = 0 then (if (nmb 10 255 (cuB s ⟨#[47]⟩)).isSome = true then (if ptx (rpV s) (rpH s) (rpL s) (rpB s) = s then 0 else 8) else 8) else 8
theorem nmb_le (s : ByteArray) : 0 ≤ (nmb 10 255 s).getD 0 ∧ (nmb 10 255 s).getD 0 ≤ 255 := by
  unfold nmb
  split
  · decide
  · cases h : prs 10 255 s with
    | none => decide
    | some x => exact prs_lt10 h
set_option maxRecDepth 100000 in
set_option maxHeartbeats 4000000 in
set_option linter.unusedSimpArgs false in
theorem c_ReadPrefix (s : ByteArray) (hs : s.size ≤ 200000) (w : World) (hL : Laid w)  :
    Calls Tryz.prog 20 #[.string s] w fun r w' => r = .returned (.tuple #[.agg (av 4 (ls [.bool (zB (rpE s) (rpV s)), .int .u64 (zI (rpE s) (rpH s)), .int .u64 (zI (rpE s) (rpL s)), .int .u8 (zI (rpE s) (rpB s))])), .int .i64 (rpE s)]) ∧ Below w.heap.size w w' := by
  go_enter Tryz.func20, Tryz.ntmps20
  have M := Mem.start hL
  refine wp_seq ?_
  refine rg_lit ?_
  refine pl_new M (want_no rfl) (some 2) rfl (.cells (av 4 (ls [.bool false, .int .u64 0, .int .u64 0, .int .u8 0])) 39) (fun _ => by kernel_rfl) ?_
  intro g1 u1 M
  replace M : Mem ⟨w, []⟩ [⟨g1, .cells (av 4 (ls [.bool false, .int .u64 0, .int .u64 0, .int .u8 0])) 39⟩] u1 := M
  refine pl_val (want_no rfl) (some 3) rfl (.int .i64 0) (fun _ => by kernel_rfl) ?_
  refine pl_nil ?_
  refine au_then ?_
  refine wp_seq ?_
  refine rg_lit ?_
  refine pl_val (want_no rfl) (some 13) rfl (.string s) (fun _ => by kernel_rfl) ?_
  refine pl_call M (want_no rfl) (some 14) rfl 46 #[.string s, .string ⟨#[47]⟩] (.tuple #[.string (cuA s ⟨#[47]⟩), .string (cuB s ⟨#[47]⟩), .bool (cuC s ⟨#[47]⟩)]) (fun _ => by kernel_rfl) (fun w M => c_Cut s ⟨#[47]⟩ (by omega) w M.laid) ?_
  intro u2 M
  refine pl_val (want_no rfl) (some 12) rfl (.tuple #[.string (cuA s ⟨#[47]⟩), .string (cuB s ⟨#[47]⟩), .bool (cuC s ⟨#[47]⟩)]) (fun _ => by kernel_rfl) ?_
  refine pl_val (want_no rfl) (some 15) rfl (.string (cuA s ⟨#[47]⟩)) (fun _ => by kernel_rfl) ?_
  refine pl_val (want_no rfl) (some 16) rfl (.string (cuB s ⟨#[47]⟩)) (fun _ => by kernel_rfl) ?_
  refine pl_val (want_no rfl) (some 17) rfl (.bool (cuC s ⟨#[47]⟩)) (fun _ => by kernel_rfl) ?_
  refine pl_val (want_no rfl) (some 4) rfl (.string (cuA s ⟨#[47]⟩)) (fun _ => by kernel_rfl) ?_
  refine pl_val (want_no rfl) (some 5) rfl (.string (cuB s ⟨#[47]⟩)) (fun _ => by kernel_rfl) ?_
  refine pl_val (want_no rfl) (some 6) rfl (.bool (cuC s ⟨#[47]⟩)) (fun _ => by kernel_rfl) ?_
  refine pl_nil ?_
  refine au_then ?_
  refine wp_seq ?_
  refine rg_lit ?_
  refine pl_val (want_no rfl) (some 19) rfl (.string (cuA s ⟨#[47]⟩)) (fun _ => by kernel_rfl) ?_
  refine pl_call M (want_no rfl) (some 20) rfl 18 #[.string (cuA s ⟨#[47]⟩)] (.tuple #[.agg (av 3 (ls [.bool (rpV s), .int .u64 (rpH s), .int .u64 (rpL s)])), .int .i64 (rdE (cuA s ⟨#[47]⟩))]) (fun _ => by kernel_rfl) (fun w M => c_Read (cuA s ⟨#[47]⟩) w M.laid) ?_
  intro u3 M
  refine pl_val (want_no rfl) (some 18) rfl (.tuple #[.agg (av 3 (ls [.bool (rpV s), .int .u64 (rpH s), .int .u64 (rpL s)])), .int .i64 (rdE (cuA s ⟨#[47]⟩))]) (fun _ => by kernel_rfl) ?_
  refine pl_val (want_no rfl) (some 21) rfl (.agg (av 3 (ls [.bool (rpV s), .int .u64 (rpH s), .int .u64 (rpL s)]))) (fun _ => by kernel_rfl) ?_
  refine pl_val (want_no rfl) (some 22) rfl (.int .i64 (rdE (cuA s ⟨#[47]⟩))) (fun _ => by kernel_rfl) ?_
  refine pl_new M (want_no rfl) (some 7) rfl (.cells (av 3 (ls [.bool false, .int .u64 0, .int .u64 0])) 24) (fun _ => by kernel_rfl) ?_
  intro g2 u4 M
  replace M : Mem ⟨w, []⟩ [⟨g1, .cells (av 4 (ls [.bool false, .int .u64 0, .int .u64 0, .int .u8 0])) 39⟩, ⟨g2, .cells (av 3 (ls [.bool false, .int .u64 0, .int .u64 0])) 24⟩] u4 := M
  refine pl_put M (want_no rfl) rfl 24 _ _ rfl 1 g2 0 (by kernel_rfl) 3 24 (ls [.bool false, .int .u64 0, .int .u64 0]) rfl 3 (ls [.bool (rpV s), .int .u64 (rpH s), .int .u64 (rpL s)]) (ls [.bool (rpV s), .int .u64 (rpH s), .int .u64 (rpL s)]) (by kernel_rfl) inz24 (by decide) (one_ls _ rfl) (fun j hj => by rw [if_pos (by omega), Nat.sub_zero]) ?_
  intro u5 M
  replace M : Mem ⟨w, []⟩ [⟨g1, .cells (av 4 (ls [.bool false, .int .u64 0, .int .u64 0, .int .u8 0])) 39⟩, ⟨g2, .cells (av 3 (ls [.bool (rpV s), .int .u64 (rpH s), .int .u64 (rpL s)])) 24⟩] u5 := M
  refine pl_val (want_no rfl) (some 8) rfl (.int .i64 (rdE (cuA s ⟨#[47]⟩))) (fun _ => by kernel_rfl) ?_
  refine pl_nil ?_
  refine au_then ?_
  refine wp_seq ?_
  refine rg_lit ?_
  refine pl_val (want_no rfl) (some 24) rfl (.string (cuB s ⟨#[47]⟩)) (fun _ => by kernel_rfl) ?_
  refine pl_call M (want_no rfl) (some 25) rfl 47 #[.string (cuB s ⟨#[47]⟩), .int .i64 10, .int .i64 8] (.tuple #[.int .u16 (rpB s), .bool (nmb 10 255 (cuB s ⟨#[47]⟩)).isSome]) (fun _ => by kernel_rfl) (fun w M => c_number10 (cuB s ⟨#[47]⟩) w M.laid) ?_
  intro u6 M
  refine pl_val (want_no rfl) (some 23) rfl (.tuple #[.int .u16 (rpB s), .bool (nmb 10 255 (cuB s ⟨#[47]⟩)).isSome]) (fun _ => by kernel_rfl) ?_
  refine pl_val (want_no rfl) (some 26) rfl (.int .u16 (rpB s)) (fun _ => by kernel_rfl) ?_
  refine pl_val (want_no rfl) (some 27) rfl (.bool (nmb 10 255 (cuB s ⟨#[47]⟩)).isSome) (fun _ => by kernel_rfl) ?_
  refine pl_val (want_no rfl) (some 9) rfl (.int .u16 (rpB s)) (fun _ => by kernel_rfl) ?_
  refine pl_val (want_no rfl) (some 10) rfl (.bool (nmb 10 255 (cuB s ⟨#[47]⟩)).isSome) (fun _ => by kernel_rfl) ?_
  refine pl_nil ?_
  refine au_then ?_
  refine wp_seq ?_
  refine rg_lit ?_
  refine pl_load M (want_no rfl) (some 28) rfl 24 _ rfl 1 g2 0 (by kernel_rfl) 3 24 (ls [.bool (rpV s), .int .u64 (rpH s), .int .u64 (rpL s)]) rfl 3 (ls [.bool (rpV s), .int .u64 (rpH s), .int .u64 (rpL s)]) (fun j _ => by rw [Nat.zero_add]) (by decide) _ Tryz.underlying24 rfl inz24 ?_
  refine pl_val (want_no rfl) (some 29) rfl (.int .u16 (rpB s)) (fun _ => by kernel_rfl) ?_
  refine pl_val (want_no rfl) (some 30) rfl (.int .u8 (rpB s)) (fun w => Eq.trans (b := .ok (.value (.int .u8 (cv .u8 (rpB s)))) w) (by kernel_rfl) (by have : 0 ≤ rpB s ∧ rpB s ≤ 255 := nmb_le _; rw [cv_u8]; congr 3; omega)) ?_
  refine pl_val (want_no rfl) (some 31) rfl (.agg (av 4 (ls [.bool (rpV s), .int .u64 (rpH s), .int .u64 (rpL s), .int .u8 (rpB s)]))) (fun _ => by kernel_rfl) ?_
  refine pl_new M (want_no rfl) (some 11) rfl (.cells (av 4 (ls [.bool false, .int .u64 0, .int .u64 0, .int .u8 0])) 39) (fun _ => by kernel_rfl) ?_
  intro g3 u7 M
  replace M : Mem ⟨w, []⟩ [⟨g1, .cells (av 4 (ls [.bool false, .int .u64 0, .int .u64 0, .int .u8 0])) 39⟩, ⟨g2, .cells (av 3 (ls [.bool (rpV s), .int .u64 (rpH s), .int .u64 (rpL s)])) 24⟩, ⟨g3, .cells (av 4 (ls [.bool false, .int .u64 0, .int .u64 0, .int .u8 0])) 39⟩] u7 := M
  refine pl_put M (want_no rfl) rfl 39 _ _ rfl 2 g3 0 (by kernel_rfl) 4 39 (ls [.bool false, .int .u64 0, .int .u64 0, .int .u8 0]) rfl 4 (ls [.bool (rpV s), .int .u64 (rpH s), .int .u64 (rpL s), .int .u8 (rpB s)]) (ls [.bool (rpV s), .int .u64 (rpH s), .int .u64 (rpL s), .int .u8 (rpB s)]) (by kernel_rfl) inz39 (by decide) (one_ls _ rfl) (fun j hj => by rw [if_pos (by omega), Nat.sub_zero]) ?_
  intro u8 M
  replace M : Mem ⟨w, []⟩ [⟨g1, .cells (av 4 (ls [.bool false, .int .u64 0, .int .u64 0, .int .u8 0])) 39⟩, ⟨g2, .cells (av 3 (ls [.bool (rpV s), .int .u64 (rpH s), .int .u64 (rpL s)])) 24⟩, ⟨g3, .cells (av 4 (ls [.bool (rpV s), .int .u64 (rpH s), .int .u64 (rpL s), .int .u8 (rpB s)])) 39⟩] u8 := M
  refine pl_nil ?_
  refine au_then ?_
  refine wp_seq ?_
  refine wp_seq ?_
  refine rg_lit ?_
  refine pl_val (want_no rfl) (some 32) rfl (.int .i64 (rdE (cuA s ⟨#[47]⟩))) (fun _ => by kernel_rfl) ?_
  by_cases c0 : (rdE (cuA s ⟨#[47]⟩)) = 0
  · skip
    refine pl_val (want_no rfl) (some 33) rfl (.bool true) (fun w => Eq.trans (b := .ok (.value (.bool (decide ((rdE (cuA s ⟨#[47]⟩)) = 0)))) w) (by kernel_rfl) (by rw [decide_eq_true (c0)])) ?_
    refine pl_val (want_no rfl) (some 34) rfl (.bool true) (fun _ => by kernel_rfl) ?_
    rcases Bool.eq_false_or_eq_true ((nmb 10 255 (cuB s ⟨#[47]⟩)).isSome) with c1 | c1
    · skip
      refine pl_val (want_on 2 true rfl 34 rfl (by kernel_rfl)) (some 35) rfl (.bool true) (fun w => Eq.trans (b := .ok (.value (.bool (nmb 10 255 (cuB s ⟨#[47]⟩)).isSome)) w) (by kernel_rfl) (by rw [c1])) ?_
      refine pl_val (want_no rfl) (some 36) rfl (.bool true) (fun _ => by kernel_rfl) ?_
      refine pl_val (want_no rfl) (some 37) rfl (.bool true) (fun _ => by kernel_rfl) ?_
      refine pl_load M (want_on 5 true rfl 37 rfl (by kernel_rfl)) (some 38) rfl 39 _ rfl 2 g3 0 (by kernel_rfl) 4 39 (ls [.bool (rpV s), .int .u64 (rpH s), .int .u64 (rpL s), .int .u8 (rpB s)]) rfl 4 (ls [.bool (rpV s), .int .u64 (rpH s), .int .u64 (rpL s), .int .u8 (rpB s)]) (fun j _ => by rw [Nat.zero_add]) (by decide) _ Tryz.underlying39 rfl inz39 ?_
      refine pl_call M (want_on 5 true rfl 37 rfl (by kernel_rfl)) (some 39) rfl 24 #[.agg (av 4 (ls [.bool (rpV s), .int .u64 (rpH s), .int .u64 (rpL s), .int .u8 (rpB s)]))] (.string (ptx (rpV s) (rpH s) (rpL s) (rpB s))) (fun _ => by kernel_rfl) (fun w M => c_PrefixText (rpV s) (rpH s) (rpL s) (rpB s) (nmb_le _).1 (nmb_le _).2 w M.laid) ?_
      intro u9 M
      refine pl_val (want_on 5 true rfl 37 rfl (by kernel_rfl)) (some 40) rfl (.string s) (fun _ => by kernel_rfl) ?_
      by_cases c2 : (ptx (rpV s) (rpH s) (rpL s) (rpB s)) = s
      · skip
        refine pl_val (want_on 5 true rfl 37 rfl (by kernel_rfl)) (some 41) rfl (.bool true) (fun w => Eq.trans (b := .ok (.value (.bool ((ptx (rpV s) (rpH s) (rpL s) (rpB s)).toList == s.toList))) w) (by kernel_rfl) (by rw [seq_pos c2])) ?_
        refine pl_val (want_no rfl) (some 42) rfl (.bool true) (fun _ => by kernel_rfl) ?_
        refine pl_nil ?_
        refine au_then ?_
        refine wp_cond_true (by kernel_rfl) ?_
        refine wp_seq ?_
        refine rg_lit ?_
        refine pl_load M (want_no rfl) (some 43) rfl 39 _ rfl 2 g3 0 (by kernel_rfl) 4 39 (ls [.bool (rpV s), .int .u64 (rpH s), .int .u64 (rpL s), .int .u8 (rpB s)]) rfl 4 (ls [.bool (rpV s), .int .u64 (rpH s), .int .u64 (rpL s), .int .u8 (rpB s)]) (fun j _ => by rw [Nat.zero_add]) (by decide) _ Tryz.underlying39 rfl inz39 ?_
        refine pl_put M (want_no rfl) rfl 39 _ _ rfl 0 g1 0 (by kernel_rfl) 4 39 (ls [.bool false, .int .u64 0, .int .u64 0, .int .u8 0]) rfl 4 (ls [.bool (rpV s), .int .u64 (rpH s), .int .u64 (rpL s), .int .u8 (rpB s)]) (ls [.bool (rpV s), .int .u64 (rpH s), .int .u64 (rpL s), .int .u8 (rpB s)]) (by kernel_rfl) inz39 (by decide) (one_ls _ rfl) (fun j hj => by rw [if_pos (by omega), Nat.sub_zero]) ?_
        intro u10 M
        replace M : Mem ⟨w, []⟩ [⟨g1, .cells (av 4 (ls [.bool (rpV s), .int .u64 (rpH s), .int .u64 (rpL s), .int .u8 (rpB s)])) 39⟩, ⟨g2, .cells (av 3 (ls [.bool (rpV s), .int .u64 (rpH s), .int .u64 (rpL s)])) 24⟩, ⟨g3, .cells (av 4 (ls [.bool (rpV s), .int .u64 (rpH s), .int .u64 (rpL s), .int .u8 (rpB s)])) 39⟩] u10 := M
        refine pl_val (want_no rfl) (some 3) rfl (.int .i64 0) (fun _ => by kernel_rfl) ?_
        refine pl_nil ?_
        refine au_then ?_
        refine wp_ret ?_
        refine au_then_ret ?_
        have e0 : zB (rpE s) (rpV s) = rpV s := by rw [(show rpE s = 0 by unfold rpE; rw [if_pos c0, if_pos c1, if_pos c2])]; rfl
        have e1 : (zI (rpE s) (rpH s)) = (rpH s) := by rw [(show rpE s = 0 by unfold rpE; rw [if_pos c0, if_pos c1, if_pos c2])]; rfl
        have e2 : (zI (rpE s) (rpL s)) = (rpL s) := by rw [(show rpE s = 0 by unfold rpE; rw [if_pos c0, if_pos c1, if_pos c2])]; rfl
        have e3 : (zI (rpE s) (rpB s)) = (rpB s) := by rw [(show rpE s = 0 by unfold rpE; rw [if_pos c0, if_pos c1, if_pos c2])]; rfl
        have e4 : (rpE s) = 0 := (show rpE s = 0 by unfold rpE; rw [if_pos c0, if_pos c1, if_pos c2])
        exact bodyPost_ret (v := .tuple #[.agg (av 4 (ls [.bool (rpV s), .int .u64 (rpH s), .int .u64 (rpL s), .int .u8 (rpB s)])), .int .i64 0]) (results_cell_tmp Tryz.results20 _ _ g1 39 (av 4 (ls [.bool (rpV s), .int .u64 (rpH s), .int .u64 (rpL s), .int .u8 (rpB s)])) (0, 0) _ _ (by kernel_rfl) (by kernel_rfl) (M.get 0 rfl) Tryz.underlying39 rfl (by rw [av_size]; exact inz39)) (by kernel_rfl) ⟨by rw [e0, e1, e2, e3, e4], below_grown M.old⟩
      · skip
        refine pl_val (want_on 5 true rfl 37 rfl (by kernel_rfl)) (some 41) rfl (.bool false) (fun w => Eq.trans (b := .ok (.value (.bool ((ptx (rpV s) (rpH s) (rpL s) (rpB s)).toList == s.toList))) w) (by kernel_rfl) (by rw [seq_neg c2])) ?_
        refine pl_val (want_no rfl) (some 42) rfl (.bool false) (fun _ => by kernel_rfl) ?_
        refine pl_nil ?_
        refine au_then ?_
        refine wp_cond_false (by kernel_rfl) ?_
        refine wp_skip ?_
        refine au_then ?_
        refine wp_seq ?_
        refine rg_lit ?_
        refine pl_val (want_no rfl) (some 44) rfl (.agg (av 4 (ls [.bool false, .int .u64 0, .int .u64 0, .int .u8 0]))) (fun _ => by kernel_rfl) ?_
        refine pl_put M (want_no rfl) rfl 39 _ _ rfl 0 g1 0 (by kernel_rfl) 4 39 (ls [.bool false, .int .u64 0, .int .u64 0, .int .u8 0]) rfl 4 (ls [.bool false, .int .u64 0, .int .u64 0, .int .u8 0]) (ls [.bool false, .int .u64 0, .int .u64 0, .int .u8 0]) (by kernel_rfl) inz39 (by decide) (one_ls _ rfl) (fun j hj => by rw [if_pos (by omega), Nat.sub_zero]) ?_
        intro u10 M
        replace M : Mem ⟨w, []⟩ [⟨g1, .cells (av 4 (ls [.bool false, .int .u64 0, .int .u64 0, .int .u8 0])) 39⟩, ⟨g2, .cells (av 3 (ls [.bool (rpV s), .int .u64 (rpH s), .int .u64 (rpL s)])) 24⟩, ⟨g3, .cells (av 4 (ls [.bool (rpV s), .int .u64 (rpH s), .int .u64 (rpL s), .int .u8 (rpB s)])) 39⟩] u10 := M
        refine pl_val (want_no rfl) (some 3) rfl (.int .i64 8) (fun _ => by kernel_rfl) ?_
        refine pl_nil ?_
        refine au_then ?_
        refine wp_ret ?_
        have e0 : zB (rpE s) (rpV s) = false := by rw [(show rpE s = 8 by unfold rpE; rw [if_pos c0, if_pos c1, if_neg c2])]; rfl
        have e1 : (zI (rpE s) (rpH s)) = 0 := by rw [(show rpE s = 8 by unfold rpE; rw [if_pos c0, if_pos c1, if_neg c2])]; rfl
        have e2 : (zI (rpE s) (rpL s)) = 0 := by rw [(show rpE s = 8 by unfold rpE; rw [if_pos c0, if_pos c1, if_neg c2])]; rfl
        have e3 : (zI (rpE s) (rpB s)) = 0 := by rw [(show rpE s = 8 by unfold rpE; rw [if_pos c0, if_pos c1, if_neg c2])]; rfl
        have e4 : (rpE s) = 8 := (show rpE s = 8 by unfold rpE; rw [if_pos c0, if_pos c1, if_neg c2])
        exact bodyPost_ret (v := .tuple #[.agg (av 4 (ls [.bool false, .int .u64 0, .int .u64 0, .int .u8 0])), .int .i64 8]) (results_cell_tmp Tryz.results20 _ _ g1 39 (av 4 (ls [.bool false, .int .u64 0, .int .u64 0, .int .u8 0])) (0, 0) _ _ (by kernel_rfl) (by kernel_rfl) (M.get 0 rfl) Tryz.underlying39 rfl (by rw [av_size]; exact inz39)) (by kernel_rfl) ⟨by rw [e0, e1, e2, e3, e4], below_grown M.old⟩
    · skip
      refine pl_val (want_on 2 true rfl 34 rfl (by kernel_rfl)) (some 35) rfl (.bool false) (fun w => Eq.trans (b := .ok (.value (.bool (nmb 10 255 (cuB s ⟨#[47]⟩)).isSome)) w) (by kernel_rfl) (by rw [c1])) ?_
      refine pl_val (want_no rfl) (some 36) rfl (.bool false) (fun _ => by kernel_rfl) ?_
      refine pl_val (want_no rfl) (some 37) rfl (.bool false) (fun _ => by kernel_rfl) ?_
      refine pl_skip (want_off 5 true rfl 37 rfl (by kernel_rfl)) (some 38) rfl ?_
      refine pl_skip (want_off 5 true rfl 37 rfl (by kernel_rfl)) (some 39) rfl ?_
      refine pl_skip (want_off 5 true rfl 37 rfl (by kernel_rfl)) (some 40) rfl ?_
      refine pl_skip (want_off 5 true rfl 37 rfl (by kernel_rfl)) (some 41) rfl ?_
      refine pl_val (want_no rfl) (some 42) rfl (.bool false) (fun _ => by kernel_rfl) ?_
      refine pl_nil ?_
      refine au_then ?_
      refine wp_cond_false (by kernel_rfl) ?_
      refine wp_skip ?_
      refine au_then ?_
      refine wp_seq ?_
      refine rg_lit ?_
      refine pl_val (want_no rfl) (some 44) rfl (.agg (av 4 (ls [.bool false, .int .u64 0, .int .u64 0, .int .u8 0]))) (fun _ => by kernel_rfl) ?_
      refine pl_put M (want_no rfl) rfl 39 _ _ rfl 0 g1 0 (by kernel_rfl) 4 39 (ls [.bool false, .int .u64 0, .int .u64 0, .int .u8 0]) rfl 4 (ls [.bool false, .int .u64 0, .int .u64 0, .int .u8 0]) (ls [.bool false, .int .u64 0, .int .u64 0, .int .u8 0]) (by kernel_rfl) inz39 (by decide) (one_ls _ rfl) (fun j hj => by rw [if_pos (by omega), Nat.sub_zero]) ?_
      intro u9 M
      replace M : Mem ⟨w, []⟩ [⟨g1, .cells (av 4 (ls [.bool false, .int .u64 0, .int .u64 0, .int .u8 0])) 39⟩, ⟨g2, .cells (av 3 (ls [.bool (rpV s), .int .u64 (rpH s), .int .u64 (rpL s)])) 24⟩, ⟨g3, .cells (av 4 (ls [.bool (rpV s), .int .u64 (rpH s), .int .u64 (rpL s), .int .u8 (rpB s)])) 39⟩] u9 := M
      refine pl_val (want_no rfl) (some 3) rfl (.int .i64 8) (fun _ => by kernel_rfl) ?_
      refine pl_nil ?_
      refine au_then ?_
      refine wp_ret ?_
      have e0 : zB (rpE s) (rpV s) = false := by rw [(show rpE s = 8 by unfold rpE; rw [if_pos c0, if_neg (by rw [c1]; decide)])]; rfl
      have e1 : (zI (rpE s) (rpH s)) = 0 := by rw [(show rpE s = 8 by unfold rpE; rw [if_pos c0, if_neg (by rw [c1]; decide)])]; rfl
      have e2 : (zI (rpE s) (rpL s)) = 0 := by rw [(show rpE s = 8 by unfold rpE; rw [if_pos c0, if_neg (by rw [c1]; decide)])]; rfl
      have e3 : (zI (rpE s) (rpB s)) = 0 := by rw [(show rpE s = 8 by unfold rpE; rw [if_pos c0, if_neg (by rw [c1]; decide)])]; rfl
      have e4 : (rpE s) = 8 := (show rpE s = 8 by unfold rpE; rw [if_pos c0, if_neg (by rw [c1]; decide)])
      exact bodyPost_ret (v := .tuple #[.agg (av 4 (ls [.bool false, .int .u64 0, .int .u64 0, .int .u8 0])), .int .i64 8]) (results_cell_tmp Tryz.results20 _ _ g1 39 (av 4 (ls [.bool false, .int .u64 0, .int .u64 0, .int .u8 0])) (0, 0) _ _ (by kernel_rfl) (by kernel_rfl) (M.get 0 rfl) Tryz.underlying39 rfl (by rw [av_size]; exact inz39)) (by kernel_rfl) ⟨by rw [e0, e1, e2, e3, e4], below_grown M.old⟩
  · skip
    refine pl_val (want_no rfl) (some 33) rfl (.bool false) (fun w => Eq.trans (b := .ok (.value (.bool (decide ((rdE (cuA s ⟨#[47]⟩)) = 0)))) w) (by kernel_rfl) (by rw [decide_eq_false (c0)])) ?_
    refine pl_val (want_no rfl) (some 34) rfl (.bool false) (fun _ => by kernel_rfl) ?_
    refine pl_skip (want_off 2 true rfl 34 rfl (by kernel_rfl)) (some 35) rfl ?_
    refine pl_val (want_no rfl) (some 36) rfl (.bool false) (fun _ => by kernel_rfl) ?_
    refine pl_val (want_no rfl) (some 37) rfl (.bool false) (fun _ => by kernel_rfl) ?_
    refine pl_skip (want_off 5 true rfl 37 rfl (by kernel_rfl)) (some 38) rfl ?_
    refine pl_skip (want_off 5 true rfl 37 rfl (by kernel_rfl)) (some 39) rfl ?_
    refine pl_skip (want_off 5 true rfl 37 rfl (by kernel_rfl)) (some 40) rfl ?_
    refine pl_skip (want_off 5 true rfl 37 rfl (by kernel_rfl)) (some 41) rfl ?_
    refine pl_val (want_no rfl) (some 42) rfl (.bool false) (fun _ => by kernel_rfl) ?_
    refine pl_nil ?_
    refine au_then ?_
    refine wp_cond_false (by kernel_rfl) ?_
    refine wp_skip ?_
    refine au_then ?_
    refine wp_seq ?_
    refine rg_lit ?_
    refine pl_val (want_no rfl) (some 44) rfl (.agg (av 4 (ls [.bool false, .int .u64 0, .int .u64 0, .int .u8 0]))) (fun _ => by kernel_rfl) ?_
    refine pl_put M (want_no rfl) rfl 39 _ _ rfl 0 g1 0 (by kernel_rfl) 4 39 (ls [.bool false, .int .u64 0, .int .u64 0, .int .u8 0]) rfl 4 (ls [.bool false, .int .u64 0, .int .u64 0, .int .u8 0]) (ls [.bool false, .int .u64 0, .int .u64 0, .int .u8 0]) (by kernel_rfl) inz39 (by decide) (one_ls _ rfl) (fun j hj => by rw [if_pos (by omega), Nat.sub_zero]) ?_
    intro u9 M
    replace M : Mem ⟨w, []⟩ [⟨g1, .cells (av 4 (ls [.bool false, .int .u64 0, .int .u64 0, .int .u8 0])) 39⟩, ⟨g2, .cells (av 3 (ls [.bool (rpV s), .int .u64 (rpH s), .int .u64 (rpL s)])) 24⟩, ⟨g3, .cells (av 4 (ls [.bool (rpV s), .int .u64 (rpH s), .int .u64 (rpL s), .int .u8 (rpB s)])) 39⟩] u9 := M
    refine pl_val (want_no rfl) (some 3) rfl (.int .i64 8) (fun _ => by kernel_rfl) ?_
    refine pl_nil ?_
    refine au_then ?_
    refine wp_ret ?_
    have e0 : zB (rpE s) (rpV s) = false := by rw [(show rpE s = 8 by unfold rpE; rw [if_neg c0])]; rfl
    have e1 : (zI (rpE s) (rpH s)) = 0 := by rw [(show rpE s = 8 by unfold rpE; rw [if_neg c0])]; rfl
    have e2 : (zI (rpE s) (rpL s)) = 0 := by rw [(show rpE s = 8 by unfold rpE; rw [if_neg c0])]; rfl
    have e3 : (zI (rpE s) (rpB s)) = 0 := by rw [(show rpE s = 8 by unfold rpE; rw [if_neg c0])]; rfl
    have e4 : (rpE s) = 8 := (show rpE s = 8 by unfold rpE; rw [if_neg c0])
    exact bodyPost_ret (v := .tuple #[.agg (av 4 (ls [.bool false, .int .u64 0, .int .u64 0, .int .u8 0])), .int .i64 8]) (results_cell_tmp Tryz.results20 _ _ g1 39 (av 4 (ls [.bool false, .int .u64 0, .int .u64 0, .int .u8 0])) (0, 0) _ _ (by kernel_rfl) (by kernel_rfl) (M.get 0 rfl) Tryz.underlying39 rfl (by rw [av_size]; exact inz39)) (by kernel_rfl) ⟨by rw [e0, e1, e2, e3, e4], below_grown M.old⟩


end Go.Proofs.YtndonmdgplojnaaGreatDoor

/- One packet, one prefix: the known run that every statement asks. -/
namespace Go.Proofs.YtndonmdgplojnaaGreatDoor
open Go.RowKit

set_option maxRecDepth 100000 in
set_option maxHeartbeats 4000000 in
set_option linter.unusedSimpArgs false in
theorem c_works  (w : World) (hL : Laid w)  :
    Calls Tryz.prog 9 #[] w fun r w' => r = .returned (.bool true) ∧ Below w.heap.size w w' := by
  go_enter Tryz.func9, Tryz.ntmps9
  have M := Mem.start hL
  refine wp_seq ?_
  refine rg_lit ?_
  refine pl_val (want_no rfl) (some 0) rfl (.bool false) (fun _ => by kernel_rfl) ?_
  refine pl_nil ?_
  refine au_then ?_
  refine wp_seq ?_
  refine rg_lit ?_
  refine pl_val (want_no rfl) (some 10) rfl (.agg (av 3 (ls [.bool false, .int .u64 0, .int .u64 167772161]))) (fun _ => by kernel_rfl) ?_
  refine pl_val (want_no rfl) (some 11) rfl (.agg (av 3 (ls [.bool false, .int .u64 0, .int .u64 167772162]))) (fun _ => by kernel_rfl) ?_
  refine pl_val (want_no rfl) (some 12) rfl (.agg (av 9 (ls [.bool false, .int .u64 0, .int .u64 167772161, .bool false, .int .u64 0, .int .u64 167772162, .int .u8 17, .int .u8 64, .string ⟨#[97, 98]⟩]))) (fun _ => by kernel_rfl) ?_
  refine pl_new M (want_no rfl) (some 1) rfl (.cells (av 9 (ls [.bool false, .int .u64 0, .int .u64 0, .bool false, .int .u64 0, .int .u64 0, .int .u8 0, .int .u8 0, .string ⟨#[]⟩])) 26) (fun _ => by kernel_rfl) ?_
  intro g1 u1 M
  replace M : Mem ⟨w, []⟩ [⟨g1, .cells (av 9 (ls [.bool false, .int .u64 0, .int .u64 0, .bool false, .int .u64 0, .int .u64 0, .int .u8 0, .int .u8 0, .string ⟨#[]⟩])) 26⟩] u1 := M
  refine pl_put M (want_no rfl) rfl 26 _ _ rfl 0 g1 0 (by kernel_rfl) 9 26 (ls [.bool false, .int .u64 0, .int .u64 0, .bool false, .int .u64 0, .int .u64 0, .int .u8 0, .int .u8 0, .string ⟨#[]⟩]) rfl 9 (ls [.bool false, .int .u64 0, .int .u64 167772161, .bool false, .int .u64 0, .int .u64 167772162, .int .u8 17, .int .u8 64, .string ⟨#[97, 98]⟩]) (ls [.bool false, .int .u64 0, .int .u64 167772161, .bool false, .int .u64 0, .int .u64 167772162, .int .u8 17, .int .u8 64, .string ⟨#[97, 98]⟩]) (by kernel_rfl) inz26 (by decide) (one_ls _ rfl) (fun j hj => by rw [if_pos (by omega), Nat.sub_zero]) ?_
  intro u2 M
  replace M : Mem ⟨w, []⟩ [⟨g1, .cells (av 9 (ls [.bool false, .int .u64 0, .int .u64 167772161, .bool false, .int .u64 0, .int .u64 167772162, .int .u8 17, .int .u8 64, .string ⟨#[97, 98]⟩])) 26⟩] u2 := M
  refine pl_nil ?_
  refine au_then ?_
  refine wp_seq ?_
  refine rg_lit ?_
  refine pl_load M (want_no rfl) (some 14) rfl 26 _ rfl 0 g1 0 (by kernel_rfl) 9 26 (ls [.bool false, .int .u64 0, .int .u64 167772161, .bool false, .int .u64 0, .int .u64 167772162, .int .u8 17, .int .u8 64, .string ⟨#[97, 98]⟩]) rfl 9 (ls [.bool false, .int .u64 0, .int .u64 167772161, .bool false, .int .u64 0, .int .u64 167772162, .int .u8 17, .int .u8 64, .string ⟨#[97, 98]⟩]) (fun j _ => by rw [Nat.zero_add]) (by decide) _ Tryz.underlying26 rfl inz26 ?_
  refine pl_call M (want_no rfl) (some 15) rfl 10 #[.agg (av 9 (ls [.bool false, .int .u64 0, .int .u64 167772161, .bool false, .int .u64 0, .int .u64 167772162, .int .u8 17, .int .u8 64, .string ⟨#[97, 98]⟩]))] (.tuple #[.string ⟨#[69, 0, 0, 22, 0, 0, 0, 0, 64, 17, 102, 213, 10, 0, 0, 1, 10, 0, 0, 2, 97, 98]⟩, .int .i64 0]) (fun _ => by kernel_rfl) (fun w M => call_val (c_Encode false 0 167772161 false 0 167772162 17 64 ⟨#[97, 98]⟩ (by decide) (by decide) (by decide) w M.laid) (by kernel_rfl)) ?_
  intro u3 M
  refine pl_val (want_no rfl) (some 13) rfl (.tuple #[.string ⟨#[69, 0, 0, 22, 0, 0, 0, 0, 64, 17, 102, 213, 10, 0, 0, 1, 10, 0, 0, 2, 97, 98]⟩, .int .i64 0]) (fun _ => by kernel_rfl) ?_
  refine pl_val (want_no rfl) (some 16) rfl (.string ⟨#[69, 0, 0, 22, 0, 0, 0, 0, 64, 17, 102, 213, 10, 0, 0, 1, 10, 0, 0, 2, 97, 98]⟩) (fun _ => by kernel_rfl) ?_
  refine pl_val (want_no rfl) (some 17) rfl (.int .i64 0) (fun _ => by kernel_rfl) ?_
  refine pl_val (want_no rfl) (some 2) rfl (.string ⟨#[69, 0, 0, 22, 0, 0, 0, 0, 64, 17, 102, 213, 10, 0, 0, 1, 10, 0, 0, 2, 97, 98]⟩) (fun _ => by kernel_rfl) ?_
  refine pl_val (want_no rfl) (some 3) rfl (.int .i64 0) (fun _ => by kernel_rfl) ?_
  refine pl_nil ?_
  refine au_then ?_
  refine wp_seq ?_
  refine rg_lit ?_
  refine pl_val (want_no rfl) (some 19) rfl (.string ⟨#[69, 0, 0, 22, 0, 0, 0, 0, 64, 17, 102, 213, 10, 0, 0, 1, 10, 0, 0, 2, 97, 98]⟩) (fun _ => by kernel_rfl) ?_
  refine pl_call M (want_no rfl) (some 20) rfl 16 #[.string ⟨#[69, 0, 0, 22, 0, 0, 0, 0, 64, 17, 102, 213, 10, 0, 0, 1, 10, 0, 0, 2, 97, 98]⟩] (.tuple #[.agg (av 9 (ls [.bool false, .int .u64 0, .int .u64 167772161, .bool false, .int .u64 0, .int .u64 167772162, .int .u8 17, .int .u8 64, .string ⟨#[97, 98]⟩])), .int .i64 0]) (fun _ => by kernel_rfl) (fun w M => call_val (c_Decode ⟨#[69, 0, 0, 22, 0, 0, 0, 0, 64, 17, 102, 213, 10, 0, 0, 1, 10, 0, 0, 2, 97, 98]⟩ (by decide) w M.laid) (by kernel_rfl)) ?_
  intro u4 M
  refine pl_val (want_no rfl) (some 18) rfl (.tuple #[.agg (av 9 (ls [.bool false, .int .u64 0, .int .u64 167772161, .bool false, .int .u64 0, .int .u64 167772162, .int .u8 17, .int .u8 64, .string ⟨#[97, 98]⟩])), .int .i64 0]) (fun _ => by kernel_rfl) ?_
  refine pl_val (want_no rfl) (some 21) rfl (.agg (av 9 (ls [.bool false, .int .u64 0, .int .u64 167772161, .bool false, .int .u64 0, .int .u64 167772162, .int .u8 17, .int .u8 64, .string ⟨#[97, 98]⟩]))) (fun _ => by kernel_rfl) ?_
  refine pl_val (want_no rfl) (some 22) rfl (.int .i64 0) (fun _ => by kernel_rfl) ?_
  refine pl_new M (want_no rfl) (some 4) rfl (.cells (av 9 (ls [.bool false, .int .u64 0, .int .u64 0, .bool false, .int .u64 0, .int .u64 0, .int .u8 0, .int .u8 0, .string ⟨#[]⟩])) 26) (fun _ => by kernel_rfl) ?_
  intro g2 u5 M
  replace M : Mem ⟨w, []⟩ [⟨g1, .cells (av 9 (ls [.bool false, .int .u64 0, .int .u64 167772161, .bool false, .int .u64 0, .int .u64 167772162, .int .u8 17, .int .u8 64, .string ⟨#[97, 98]⟩])) 26⟩, ⟨g2, .cells (av 9 (ls [.bool false, .int .u64 0, .int .u64 0, .bool false, .int .u64 0, .int .u64 0, .int .u8 0, .int .u8 0, .string ⟨#[]⟩])) 26⟩] u5 := M
  refine pl_put M (want_no rfl) rfl 26 _ _ rfl 1 g2 0 (by kernel_rfl) 9 26 (ls [.bool false, .int .u64 0, .int .u64 0, .bool false, .int .u64 0, .int .u64 0, .int .u8 0, .int .u8 0, .string ⟨#[]⟩]) rfl 9 (ls [.bool false, .int .u64 0, .int .u64 167772161, .bool false, .int .u64 0, .int .u64 167772162, .int .u8 17, .int .u8 64, .string ⟨#[97, 98]⟩]) (ls [.bool false, .int .u64 0, .int .u64 167772161, .bool false, .int .u64 0, .int .u64 167772162, .int .u8 17, .int .u8 64, .string ⟨#[97, 98]⟩]) (by kernel_rfl) inz26 (by decide) (one_ls _ rfl) (fun j hj => by rw [if_pos (by omega), Nat.sub_zero]) ?_
  intro u6 M
  replace M : Mem ⟨w, []⟩ [⟨g1, .cells (av 9 (ls [.bool false, .int .u64 0, .int .u64 167772161, .bool false, .int .u64 0, .int .u64 167772162, .int .u8 17, .int .u8 64, .string ⟨#[97, 98]⟩])) 26⟩, ⟨g2, .cells (av 9 (ls [.bool false, .int .u64 0, .int .u64 167772161, .bool false, .int .u64 0, .int .u64 167772162, .int .u8 17, .int .u8 64, .string ⟨#[97, 98]⟩])) 26⟩] u6 := M
  refine pl_val (want_no rfl) (some 5) rfl (.int .i64 0) (fun _ => by kernel_rfl) ?_
  refine pl_nil ?_
  refine au_then ?_
  refine wp_seq ?_
  refine rg_lit ?_
  refine pl_call M (want_no rfl) (some 24) rfl 20 #[.string ⟨#[49, 48, 46, 48, 46, 48, 46, 48, 47, 56]⟩] (.tuple #[.agg (av 4 (ls [.bool false, .int .u64 0, .int .u64 167772160, .int .u8 8])), .int .i64 0]) (fun _ => by kernel_rfl) (fun w M => call_val (c_ReadPrefix ⟨#[49, 48, 46, 48, 46, 48, 46, 48, 47, 56]⟩ (by decide) w M.laid) (by kernel_rfl)) ?_
  intro u7 M
  refine pl_val (want_no rfl) (some 23) rfl (.tuple #[.agg (av 4 (ls [.bool false, .int .u64 0, .int .u64 167772160, .int .u8 8])), .int .i64 0]) (fun _ => by kernel_rfl) ?_
  refine pl_val (want_no rfl) (some 25) rfl (.agg (av 4 (ls [.bool false, .int .u64 0, .int .u64 167772160, .int .u8 8]))) (fun _ => by kernel_rfl) ?_
  refine pl_val (want_no rfl) (some 26) rfl (.int .i64 0) (fun _ => by kernel_rfl) ?_
  refine pl_new M (want_no rfl) (some 6) rfl (.cells (av 4 (ls [.bool false, .int .u64 0, .int .u64 0, .int .u8 0])) 39) (fun _ => by kernel_rfl) ?_
  intro g3 u8 M
  replace M : Mem ⟨w, []⟩ [⟨g1, .cells (av 9 (ls [.bool false, .int .u64 0, .int .u64 167772161, .bool false, .int .u64 0, .int .u64 167772162, .int .u8 17, .int .u8 64, .string ⟨#[97, 98]⟩])) 26⟩, ⟨g2, .cells (av 9 (ls [.bool false, .int .u64 0, .int .u64 167772161, .bool false, .int .u64 0, .int .u64 167772162, .int .u8 17, .int .u8 64, .string ⟨#[97, 98]⟩])) 26⟩, ⟨g3, .cells (av 4 (ls [.bool false, .int .u64 0, .int .u64 0, .int .u8 0])) 39⟩] u8 := M
  refine pl_put M (want_no rfl) rfl 39 _ _ rfl 2 g3 0 (by kernel_rfl) 4 39 (ls [.bool false, .int .u64 0, .int .u64 0, .int .u8 0]) rfl 4 (ls [.bool false, .int .u64 0, .int .u64 167772160, .int .u8 8]) (ls [.bool false, .int .u64 0, .int .u64 167772160, .int .u8 8]) (by kernel_rfl) inz39 (by decide) (one_ls _ rfl) (fun j hj => by rw [if_pos (by omega), Nat.sub_zero]) ?_
  intro u9 M
  replace M : Mem ⟨w, []⟩ [⟨g1, .cells (av 9 (ls [.bool false, .int .u64 0, .int .u64 167772161, .bool false, .int .u64 0, .int .u64 167772162, .int .u8 17, .int .u8 64, .string ⟨#[97, 98]⟩])) 26⟩, ⟨g2, .cells (av 9 (ls [.bool false, .int .u64 0, .int .u64 167772161, .bool false, .int .u64 0, .int .u64 167772162, .int .u8 17, .int .u8 64, .string ⟨#[97, 98]⟩])) 26⟩, ⟨g3, .cells (av 4 (ls [.bool false, .int .u64 0, .int .u64 167772160, .int .u8 8])) 39⟩] u9 := M
  refine pl_val (want_no rfl) (some 7) rfl (.int .i64 0) (fun _ => by kernel_rfl) ?_
  refine pl_nil ?_
  refine au_then ?_
  refine wp_seq ?_
  refine rg_lit ?_
  refine pl_call M (want_no rfl) (some 28) rfl 18 #[.string ⟨#[48, 49, 48, 46, 48, 46, 48, 46, 49]⟩] (.tuple #[.agg (av 3 (ls [.bool false, .int .u64 0, .int .u64 0])), .int .i64 8]) (fun _ => by kernel_rfl) (fun w M => call_val (c_Read ⟨#[48, 49, 48, 46, 48, 46, 48, 46, 49]⟩ w M.laid) (by kernel_rfl)) ?_
  intro u10 M
  refine pl_val (want_no rfl) (some 27) rfl (.tuple #[.agg (av 3 (ls [.bool false, .int .u64 0, .int .u64 0])), .int .i64 8]) (fun _ => by kernel_rfl) ?_
  refine pl_val (want_no rfl) (some 29) rfl (.agg (av 3 (ls [.bool false, .int .u64 0, .int .u64 0]))) (fun _ => by kernel_rfl) ?_
  refine pl_val (want_no rfl) (some 30) rfl (.int .i64 8) (fun _ => by kernel_rfl) ?_
  refine pl_new M (want_no rfl) (some 8) rfl (.cells (av 3 (ls [.bool false, .int .u64 0, .int .u64 0])) 24) (fun _ => by kernel_rfl) ?_
  intro g4 u11 M
  replace M : Mem ⟨w, []⟩ [⟨g1, .cells (av 9 (ls [.bool false, .int .u64 0, .int .u64 167772161, .bool false, .int .u64 0, .int .u64 167772162, .int .u8 17, .int .u8 64, .string ⟨#[97, 98]⟩])) 26⟩, ⟨g2, .cells (av 9 (ls [.bool false, .int .u64 0, .int .u64 167772161, .bool false, .int .u64 0, .int .u64 167772162, .int .u8 17, .int .u8 64, .string ⟨#[97, 98]⟩])) 26⟩, ⟨g3, .cells (av 4 (ls [.bool false, .int .u64 0, .int .u64 167772160, .int .u8 8])) 39⟩, ⟨g4, .cells (av 3 (ls [.bool false, .int .u64 0, .int .u64 0])) 24⟩] u11 := M
  refine pl_put M (want_no rfl) rfl 24 _ _ rfl 3 g4 0 (by kernel_rfl) 3 24 (ls [.bool false, .int .u64 0, .int .u64 0]) rfl 3 (ls [.bool false, .int .u64 0, .int .u64 0]) (ls [.bool false, .int .u64 0, .int .u64 0]) (by kernel_rfl) inz24 (by decide) (one_ls _ rfl) (fun j hj => by rw [if_pos (by omega), Nat.sub_zero]) ?_
  intro u12 M
  replace M : Mem ⟨w, []⟩ [⟨g1, .cells (av 9 (ls [.bool false, .int .u64 0, .int .u64 167772161, .bool false, .int .u64 0, .int .u64 167772162, .int .u8 17, .int .u8 64, .string ⟨#[97, 98]⟩])) 26⟩, ⟨g2, .cells (av 9 (ls [.bool false, .int .u64 0, .int .u64 167772161, .bool false, .int .u64 0, .int .u64 167772162, .int .u8 17, .int .u8 64, .string ⟨#[97, 98]⟩])) 26⟩, ⟨g3, .cells (av 4 (ls [.bool false, .int .u64 0, .int .u64 167772160, .int .u8 8])) 39⟩, ⟨g4, .cells (av 3 (ls [.bool false, .int .u64 0, .int .u64 0])) 24⟩] u12 := M
  refine pl_val (want_no rfl) (some 9) rfl (.int .i64 8) (fun _ => by kernel_rfl) ?_
  refine pl_nil ?_
  refine au_then ?_
  refine wp_seq ?_
  refine rg_lit ?_
  refine pl_val (want_no rfl) (some 31) rfl (.int .i64 0) (fun _ => by kernel_rfl) ?_
  refine pl_val (want_no rfl) (some 32) rfl (.bool true) (fun _ => by kernel_rfl) ?_
  refine pl_val (want_no rfl) (some 33) rfl (.bool true) (fun _ => by kernel_rfl) ?_
  refine pl_val (want_on 2 true rfl 33 rfl (by kernel_rfl)) (some 34) rfl (.string ⟨#[69, 0, 0, 22, 0, 0, 0, 0, 64, 17, 102, 213, 10, 0, 0, 1, 10, 0, 0, 2, 97, 98]⟩) (fun _ => by kernel_rfl) ?_
  refine pl_val (want_on 2 true rfl 33 rfl (by kernel_rfl)) (some 35) rfl (.int .i64 22) (fun _ => by kernel_rfl) ?_
  refine pl_val (want_on 2 true rfl 33 rfl (by kernel_rfl)) (some 36) rfl (.bool true) (fun _ => by kernel_rfl) ?_
  refine pl_val (want_no rfl) (some 37) rfl (.bool true) (fun _ => by kernel_rfl) ?_
  refine pl_val (want_no rfl) (some 38) rfl (.bool true) (fun _ => by kernel_rfl) ?_
  refine pl_val (want_on 7 true rfl 38 rfl (by kernel_rfl)) (some 39) rfl (.string ⟨#[69, 0, 0, 22, 0, 0, 0, 0, 64, 17, 102, 213, 10, 0, 0, 1, 10, 0, 0, 2, 97, 98]⟩) (fun _ => by kernel_rfl) ?_
  refine pl_val (want_on 7 true rfl 38 rfl (by kernel_rfl)) (some 40) rfl (.int .u8 102) (fun w => (run_ixS 9 Tryz.underlying9 _ _ rfl ⟨#[69, 0, 0, 22, 0, 0, 0, 0, 64, 17, 102, 213, 10, 0, 0, 1, 10, 0, 0, 2, 97, 98]⟩ (by kernel_rfl) .i64 10 (by kernel_rfl) (by decide) w).trans (by kernel_rfl)) ?_
  refine pl_val (want_on 7 true rfl 38 rfl (by kernel_rfl)) (some 41) rfl (.bool true) (fun _ => by kernel_rfl) ?_
  refine pl_val (want_no rfl) (some 42) rfl (.bool true) (fun _ => by kernel_rfl) ?_
  refine pl_val (want_no rfl) (some 43) rfl (.bool true) (fun _ => by kernel_rfl) ?_
  refine pl_val (want_on 12 true rfl 43 rfl (by kernel_rfl)) (some 44) rfl (.string ⟨#[69, 0, 0, 22, 0, 0, 0, 0, 64, 17, 102, 213, 10, 0, 0, 1, 10, 0, 0, 2, 97, 98]⟩) (fun _ => by kernel_rfl) ?_
  refine pl_val (want_on 12 true rfl 43 rfl (by kernel_rfl)) (some 45) rfl (.int .u8 213) (fun w => (run_ixS 9 Tryz.underlying9 _ _ rfl ⟨#[69, 0, 0, 22, 0, 0, 0, 0, 64, 17, 102, 213, 10, 0, 0, 1, 10, 0, 0, 2, 97, 98]⟩ (by kernel_rfl) .i64 11 (by kernel_rfl) (by decide) w).trans (by kernel_rfl)) ?_
  refine pl_val (want_on 12 true rfl 43 rfl (by kernel_rfl)) (some 46) rfl (.bool true) (fun _ => by kernel_rfl) ?_
  refine pl_val (want_no rfl) (some 47) rfl (.bool true) (fun _ => by kernel_rfl) ?_
  refine pl_val (want_no rfl) (some 48) rfl (.bool true) (fun _ => by kernel_rfl) ?_
  refine pl_val (want_on 17 true rfl 48 rfl (by kernel_rfl)) (some 49) rfl (.int .i64 0) (fun _ => by kernel_rfl) ?_
  refine pl_val (want_on 17 true rfl 48 rfl (by kernel_rfl)) (some 50) rfl (.bool true) (fun _ => by kernel_rfl) ?_
  refine pl_val (want_no rfl) (some 51) rfl (.bool true) (fun _ => by kernel_rfl) ?_
  refine pl_val (want_no rfl) (some 52) rfl (.bool true) (fun _ => by kernel_rfl) ?_
  refine pl_load M (want_on 21 true rfl 52 rfl (by kernel_rfl)) (some 53) rfl 26 _ rfl 1 g2 0 (by kernel_rfl) 9 26 (ls [.bool false, .int .u64 0, .int .u64 167772161, .bool false, .int .u64 0, .int .u64 167772162, .int .u8 17, .int .u8 64, .string ⟨#[97, 98]⟩]) rfl 9 (ls [.bool false, .int .u64 0, .int .u64 167772161, .bool false, .int .u64 0, .int .u64 167772162, .int .u8 17, .int .u8 64, .string ⟨#[97, 98]⟩]) (fun j _ => by rw [Nat.zero_add]) (by decide) _ Tryz.underlying26 rfl inz26 ?_
  refine pl_load M (want_on 21 true rfl 52 rfl (by kernel_rfl)) (some 54) rfl 26 _ rfl 0 g1 0 (by kernel_rfl) 9 26 (ls [.bool false, .int .u64 0, .int .u64 167772161, .bool false, .int .u64 0, .int .u64 167772162, .int .u8 17, .int .u8 64, .string ⟨#[97, 98]⟩]) rfl 9 (ls [.bool false, .int .u64 0, .int .u64 167772161, .bool false, .int .u64 0, .int .u64 167772162, .int .u8 17, .int .u8 64, .string ⟨#[97, 98]⟩]) (fun j _ => by rw [Nat.zero_add]) (by decide) _ Tryz.underlying26 rfl inz26 ?_
  refine pl_val (want_on 21 true rfl 52 rfl (by kernel_rfl)) (some 55) rfl (.bool true) (fun w => (eql26 false false (0 : Int) (0 : Int) (167772161 : Int) (167772161 : Int) false false (0 : Int) (0 : Int) (167772162 : Int) (167772162 : Int) (17 : Int) (17 : Int) (64 : Int) (64 : Int) (⟨#[97, 98]⟩ : ByteArray) (⟨#[97, 98]⟩ : ByteArray) _ _ rfl (by kernel_rfl) (by kernel_rfl) w).trans (by rw [decide_eq_true (⟨rfl, rfl, rfl, rfl, rfl, rfl, rfl, rfl, rfl⟩ : false = false ∧ (0 : Int) = (0 : Int) ∧ (167772161 : Int) = (167772161 : Int) ∧ false = false ∧ (0 : Int) = (0 : Int) ∧ (167772162 : Int) = (167772162 : Int) ∧ (17 : Int) = (17 : Int) ∧ (64 : Int) = (64 : Int) ∧ (⟨#[97, 98]⟩ : ByteArray) = (⟨#[97, 98]⟩ : ByteArray))])) ?_
  refine pl_val (want_no rfl) (some 56) rfl (.bool true) (fun _ => by kernel_rfl) ?_
  refine pl_val (want_no rfl) (some 57) rfl (.bool true) (fun _ => by kernel_rfl) ?_
  refine pl_val (want_on 26 true rfl 57 rfl (by kernel_rfl)) (some 58) rfl (.int .i64 0) (fun _ => by kernel_rfl) ?_
  refine pl_val (want_on 26 true rfl 57 rfl (by kernel_rfl)) (some 59) rfl (.bool true) (fun _ => by kernel_rfl) ?_
  refine pl_val (want_no rfl) (some 60) rfl (.bool true) (fun _ => by kernel_rfl) ?_
  refine pl_val (want_no rfl) (some 61) rfl (.bool true) (fun _ => by kernel_rfl) ?_
  refine pl_load M (want_on 30 true rfl 61 rfl (by kernel_rfl)) (some 62) rfl 39 _ rfl 2 g3 0 (by kernel_rfl) 4 39 (ls [.bool false, .int .u64 0, .int .u64 167772160, .int .u8 8]) rfl 4 (ls [.bool false, .int .u64 0, .int .u64 167772160, .int .u8 8]) (fun j _ => by rw [Nat.zero_add]) (by decide) _ Tryz.underlying39 rfl inz39 ?_
  refine pl_val (want_on 30 true rfl 61 rfl (by kernel_rfl)) (some 63) rfl (.pointer (some ⟨g1, 0, none⟩)) (fun _ => by kernel_rfl) ?_
  refine pl_load M (want_on 30 true rfl 61 rfl (by kernel_rfl)) (some 64) rfl 24 _ rfl 0 g1 0 (by kernel_rfl) 9 26 (ls [.bool false, .int .u64 0, .int .u64 167772161, .bool false, .int .u64 0, .int .u64 167772162, .int .u8 17, .int .u8 64, .string ⟨#[97, 98]⟩]) rfl 3 (ls [.bool false, .int .u64 0, .int .u64 167772161]) (part_ls _ 0 3 _ rfl) (by decide) _ Tryz.underlying24 rfl inz24 ?_
  refine pl_call M (want_on 30 true rfl 61 rfl (by kernel_rfl)) (some 65) rfl 28 #[.agg (av 4 (ls [.bool false, .int .u64 0, .int .u64 167772160, .int .u8 8])), .agg (av 3 (ls [.bool false, .int .u64 0, .int .u64 167772161]))] (.bool true) (fun _ => by kernel_rfl) (fun w M => call_val (c_Holds false 0 167772160 8 (by decide) (by decide) false 0 167772161 w M.laid) (by kernel_rfl)) ?_
  intro u13 M
  refine pl_val (want_no rfl) (some 66) rfl (.bool true) (fun _ => by kernel_rfl) ?_
  refine pl_val (want_no rfl) (some 67) rfl (.bool true) (fun _ => by kernel_rfl) ?_
  refine pl_val (want_on 36 true rfl 67 rfl (by kernel_rfl)) (some 68) rfl (.int .i64 8) (fun _ => by kernel_rfl) ?_
  refine pl_val (want_on 36 true rfl 67 rfl (by kernel_rfl)) (some 69) rfl (.bool true) (fun _ => by kernel_rfl) ?_
  refine pl_val (want_no rfl) (some 70) rfl (.bool true) (fun _ => by kernel_rfl) ?_
  refine pl_val (want_no rfl) (some 71) rfl (.bool true) (fun _ => by kernel_rfl) ?_
  refine pl_val (want_on 40 true rfl 71 rfl (by kernel_rfl)) (some 72) rfl (.agg (av 3 (ls [.bool true, .int .u64 0, .int .u64 1]))) (fun _ => by kernel_rfl) ?_
  refine pl_call M (want_on 40 true rfl 71 rfl (by kernel_rfl)) (some 73) rfl 22 #[.agg (av 3 (ls [.bool true, .int .u64 0, .int .u64 1]))] (.string ⟨#[58, 58, 49]⟩) (fun _ => by kernel_rfl) (fun w M => call_val (c_Text true 0 1 w M.laid) (by kernel_rfl)) ?_
  intro u14 M
  refine pl_val (want_on 40 true rfl 71 rfl (by kernel_rfl)) (some 74) rfl (.bool true) (fun _ => by kernel_rfl) ?_
  refine pl_val (want_no rfl) (some 75) rfl (.bool true) (fun _ => by kernel_rfl) ?_
  refine pl_val (want_no rfl) (some 0) rfl (.bool true) (fun _ => by kernel_rfl) ?_
  refine pl_nil ?_
  refine au_then ?_
  refine wp_ret ?_
  exact bodyPost_ret (v := .bool true) (results_tmp1 Tryz.results9 _ _ _ (by kernel_rfl)) (by kernel_rfl) ⟨rfl, below_grown M.old⟩


end Go.Proofs.YtndonmdgplojnaaGreatDoor

/- The bytes of a packet: those that the program lays into its array are the document's. -/
namespace Go.Proofs.YtndonmdgplojnaaGreatDoor
open Go.RowKit

theorem ba_ext (a b : ByteArray) (hs : a.size = b.size) (h : ∀ i, i < a.size → bt a i = bt b i) : a = b := by
  have e : sb a = sb b := by
    apply List.ext_getElem?
    intro i
    by_cases hi : i < a.size
    · have := h i hi
      rw [bt_of_sb, bt_of_sb] at this
      have l1 : i < (sb a).length := by rw [sb_length]; exact hi
      have l2 : i < (sb b).length := by rw [sb_length]; omega
      simp only [List.getD, List.getElem?_eq_getElem l1, List.getElem?_eq_getElem l2, Option.getD_some] at this
      rw [List.getElem?_eq_getElem l1, List.getElem?_eq_getElem l2, this]
    · rw [List.getElem?_eq_none (by rw [sb_length]; omega), List.getElem?_eq_none (by rw [sb_length]; omega)]
  rw [← bs_sb a, e, bs_sb]
theorem bt_app (a b : ByteArray) (i : Nat) : bt (a ++ b) i = if i < a.size then bt a i else bt b (i - a.size) := by
  unfold bt
  rw [ByteArray.data_append]
  split
  · rename_i h
    rw [Array.getElem?_append_left h]
  · rename_i h
    have h' : a.data.size ≤ i := Nat.le_of_not_lt h
    rw [Array.getElem?_append_right h']
    rfl
theorem lay_eq (F : Nat → Int) (hF : NB F) (H X : ByteArray) (k n : Nat) (hk : H.size = k) (hn : X.size = n) (h1 : ∀ i, i < k → F i = bt H i) (h2 : ∀ i, i < n → F (k + i) = bt X i) : bs ((List.range (k + n)).map F) = H ++ X := by
  have hl : (bs ((List.range (k + n)).map F)).size = k + n := by rw [bs_size]; simp
  refine ba_ext _ _ (by rw [hl, ByteArray.size_append, hk, hn]) fun i hi => ?_
  rw [hl] at hi
  rw [bt_bs _ (hF.l _), bt_app, hk]
  have e : ((List.range (k + n)).map F).getD i 0 = F i := by
    simp [List.getD, List.getElem?_map, List.getElem?_range hi]
  rw [e]
  split
  · rename_i h
    exact h1 i h
  · rename_i h
    have := h2 (i - k) (by omega)
    rw [← this]
    congr 1
    omega
theorem u8w (x : Int) : 0 ≤ cv .u8 x ∧ cv .u8 x < 256 := by
  rw [cv_u8]
  omega
theorem bt_be2 (x : Int) : bt (be2 x) 0 = cv .u8 (sr x 8) ∧ bt (be2 x) 1 = cv .u8 x := by
  have h : ∀ y ∈ [(cv .u8 (sr x 8)), (cv .u8 x)], 0 ≤ y ∧ y < 256 := by
    intro y hy
    simp only [List.mem_cons, List.mem_nil_iff, or_false] at hy
    rcases hy with rfl | rfl <;> exact u8w _
  unfold be2
  rw [bt_bs _ h, bt_bs _ h]
  exact ⟨rfl, rfl⟩
theorem bt_two (p t : Int) (hp : 0 ≤ p ∧ p < 256) (ht : 0 ≤ t ∧ t < 256) : bt (bs [p, t]) 0 = p ∧ bt (bs [p, t]) 1 = t := by
  have h : ∀ y ∈ [p, t], 0 ≤ y ∧ y < 256 := by
    intro y hy
    simp only [List.mem_cons, List.mem_nil_iff, or_false] at hy
    rcases hy with rfl | rfl
    · exact hp
    · exact ht
  rw [bt_bs _ h, bt_bs _ h]
  exact ⟨rfl, rfl⟩
/-- The head of a packet of version 6. -/
def h6 (p t : Int) (n : Nat) : ByteArray := ((⟨#[96, 0, 0, 0]⟩ : ByteArray) ++ be2 (cv .u64 (n : Int))) ++ bs [p, t]
theorem h6_size (p : Int) (t : Int) (n : Nat) : (h6 p t n).size = 8 := by
  unfold h6
  rw [ByteArray.size_append, ByteArray.size_append, be2_size, bs_size]
  rfl
theorem h6_bt (p : Int) (t : Int) (hp : 0 ≤ p ∧ p < 256) (ht : 0 ≤ t ∧ t < 256) (n : Nat) : bt (h6 p t n) 0 = 96 ∧ bt (h6 p t n) 1 = 0 ∧ bt (h6 p t n) 2 = 0 ∧ bt (h6 p t n) 3 = 0 ∧ bt (h6 p t n) 4 = bt (be2 (cv .u64 (n : Int))) 0 ∧ bt (h6 p t n) 5 = bt (be2 (cv .u64 (n : Int))) 1 ∧ bt (h6 p t n) 6 = p ∧ bt (h6 p t n) 7 = t := by
  have z : (⟨#[96, 0, 0, 0]⟩ : ByteArray).size = 4 := rfl
  have ⟨e0, e1⟩ := bt_two p t hp ht
  unfold h6
  simp only [bt_app, ByteArray.size_append, be2_size, z]
  refine ⟨rfl, rfl, rfl, rfl, rfl, rfl, ?_, ?_⟩
  · exact e0
  · exact e1
theorem f6_eq (h0 : Int) (l0 : Int) (h1 : Int) (l1 : Int) (p : Int) (t : Int) (s : ByteArray) (hp : 0 ≤ p ∧ p < 256) (ht : 0 ≤ t ∧ t < 256) : f6o h0 l0 h1 l1 p t s = dE6 h0 l0 h1 l1 p t s true true := by
  have e : dE6 h0 l0 h1 l1 p t s true true = h6 p t s.size ++ ((dB true h0 l0 ++ dB true h1 l1) ++ s) := by
    unfold dE6 h6
    simp only [ByteArray.append_assoc]
  have hx : ((dB true h0 l0 ++ dB true h1 l1) ++ s).size = 32 + s.size := by
    rw [ByteArray.size_append, ByteArray.size_append, ← aB_dB, ← aB_dB, aB_t, aB_t]
  have hN : NB (f6a h0 l0 h1 l1 p t s) := (((((NB.z.c _ _ _).u _ ⟨by decide, by decide⟩).c _ _ _).u _ ht).u _ hp)
  unfold f6o
  rw [e, show 40 + s.size = 8 + (32 + s.size) by omega]
  refine lay_eq _ hN _ _ 8 _ (h6_size p t _) hx (fun i hi => ?_) (fun i hi => ?_)
  · obtain ⟨b0, b1, b2, b3, b4, b5, b6, b7⟩ := h6_bt p t hp ht s.size
    unfold f6a
    rcases i with _ | _ | _ | _ | _ | _ | _ | _ | i
    · rw [b0]; rfl
    · rw [b1]; simp [upd, cpy]
    · rw [b2]; simp [upd, cpy]
    · rw [b3]; simp [upd, cpy]
    · rw [b4]; simp [upd, cpy]
    · rw [b5]; simp [upd, cpy]
    · rw [b6]; simp [upd]
    · rw [b7]; simp [upd]
    · omega
  · unfold f6a
    simp only [upd, cpy]
    rw [if_neg (by omega), if_neg (by omega), if_neg (by omega), if_neg (by omega), if_pos ⟨by omega, by omega⟩, aB_dB, aB_dB]
    congr 1
    omega
theorem h4_bt (p : Int) (t : Int) (hp : 0 ≤ p ∧ p < 256) (ht : 0 ≤ t ∧ t < 256) (n : Nat) : bt (e4h t p n) 0 = 69 ∧ bt (e4h t p n) 1 = 0 ∧ bt (e4h t p n) 2 = bt (be2 (cv .u64 (20 + (n : Int)))) 0 ∧ bt (e4h t p n) 3 = bt (be2 (cv .u64 (20 + (n : Int)))) 1 ∧ bt (e4h t p n) 4 = 0 ∧ bt (e4h t p n) 5 = 0 ∧ bt (e4h t p n) 6 = 0 ∧ bt (e4h t p n) 7 = 0 ∧ bt (e4h t p n) 8 = t ∧ bt (e4h t p n) 9 = p := by
  have z : (⟨#[69, 0]⟩ : ByteArray).size = 2 := rfl
  have z4 : (⟨#[0, 0, 0, 0]⟩ : ByteArray).size = 4 := rfl
  have ⟨e0, e1⟩ := bt_two t p ht hp
  unfold e4h
  simp only [bt_app, ByteArray.size_append, be2_size, z, z4]
  refine ⟨rfl, rfl, rfl, rfl, rfl, rfl, rfl, rfl, ?_, ?_⟩
  · exact e0
  · exact e1
theorem f4a_nb (h0 : Int) (l0 : Int) (h1 : Int) (l1 : Int) (p : Int) (t : Int) (s : ByteArray) (hp : 0 ≤ p ∧ p < 256) (ht : 0 ≤ t ∧ t < 256) : NB (f4a h0 l0 h1 l1 p t s) := (((((NB.z.c _ _ _).u _ ⟨by decide, by decide⟩).c _ _ _).u _ ht).u _ hp)
theorem f4a_lo (h0 : Int) (l0 : Int) (h1 : Int) (l1 : Int) (p : Int) (t : Int) (s : ByteArray) (hp : 0 ≤ p ∧ p < 256) (ht : 0 ≤ t ∧ t < 256) (i : Nat) (hi : i < 10) : f4a h0 l0 h1 l1 p t s i = bt (e4h t p s.size) i := by
  obtain ⟨b0, b1, b2, b3, b4, b5, b6, b7, b8, b9⟩ := h4_bt p t hp ht s.size
  have hc : (((20 + s.size) : Nat) : Int) = 20 + (s.size : Int) := by omega
  unfold f4a
  rw [hc]
  rcases i with _ | _ | _ | _ | _ | _ | _ | _ | _ | _ | i
  · rw [b0]; rfl
  · rw [b1]; simp [upd, cpy]
  · rw [b2]; simp [upd, cpy]
  · rw [b3]; simp [upd, cpy]
  · rw [b4]; simp [upd, cpy]
  · rw [b5]; simp [upd, cpy]
  · rw [b6]; simp [upd, cpy]
  · rw [b7]; simp [upd, cpy]
  · rw [b8]; simp [upd]
  · rw [b9]; simp [upd]
  · omega
theorem f4a_mid (h0 : Int) (l0 : Int) (h1 : Int) (l1 : Int) (p : Int) (t : Int) (s : ByteArray) (i : Nat) (hi : i < 2) : f4a h0 l0 h1 l1 p t s (10 + i) = 0 := by
  unfold f4a
  simp only [upd, cpy]
  rw [if_neg (by omega), if_neg (by omega), if_neg (by omega), if_neg (by omega), if_neg (by omega)]
theorem f4a_hi (h0 : Int) (l0 : Int) (h1 : Int) (l1 : Int) (p : Int) (t : Int) (s : ByteArray) (i : Nat) (hi : i < 8 + s.size) : f4a h0 l0 h1 l1 p t s (12 + i) = bt ((dB false h0 l0 ++ dB false h1 l1) ++ s) i := by
  unfold f4a
  simp only [upd, cpy]
  rw [if_neg (by omega), if_neg (by omega), if_neg (by omega), if_neg (by omega), if_pos ⟨by omega, by omega⟩, aB_dB, aB_dB]
  congr 1
  omega
theorem k4_size (h0 : Int) (l0 : Int) (h1 : Int) (l1 : Int) : (e4k h0 l0 h1 l1 false false).size = 8 := by
  unfold e4k
  rw [ByteArray.size_append, ← aB_dB, ← aB_dB, aB_f, aB_f]
theorem f4s_eq (h0 : Int) (l0 : Int) (h1 : Int) (l1 : Int) (p : Int) (t : Int) (s : ByteArray) (hp : 0 ≤ p ∧ p < 256) (ht : 0 ≤ t ∧ t < 256) : f4s h0 l0 h1 l1 p t s = (e4h t p s.size ++ (⟨#[0, 0]⟩ : ByteArray)) ++ e4k h0 l0 h1 l1 false false := by
  have z2 : (⟨#[0, 0]⟩ : ByteArray).size = 2 := rfl
  unfold f4s
  refine lay_eq _ (f4a_nb h0 l0 h1 l1 p t s hp ht) _ _ 12 8 (by rw [ByteArray.size_append, e4h_size, z2]) (k4_size h0 l0 h1 l1) (fun i hi => ?_) (fun i hi => ?_)
  · rw [bt_app, e4h_size]
    split
    · exact f4a_lo h0 l0 h1 l1 p t s hp ht i (by omega)
    · have := f4a_mid h0 l0 h1 l1 p t s (i - 10) (by omega)
      rw [show 10 + (i - 10) = i by omega] at this
      rw [this]
      obtain rfl | rfl : i = 10 ∨ i = 11 := by omega
      · rfl
      · rfl
  · rw [f4a_hi h0 l0 h1 l1 p t s i (by omega), bt_app]
    have := k4_size h0 l0 h1 l1
    unfold e4k at this
    rw [if_pos (by omega)]
    rfl
theorem f4_eq (h0 : Int) (l0 : Int) (h1 : Int) (l1 : Int) (p : Int) (t : Int) (s : ByteArray) (hp : 0 ≤ p ∧ p < 256) (ht : 0 ≤ t ∧ t < 256) : f4o h0 l0 h1 l1 p t s = dE4 h0 l0 h1 l1 p t s false false := by
  have hN : NB (f4b h0 l0 h1 l1 p t s) := (f4a_nb h0 l0 h1 l1 p t s hp ht).c _ _ _
  have e : dE4 h0 l0 h1 l1 p t s false false = (e4h t p s.size ++ be2 (cv .u64 (sumS (f4s h0 l0 h1 l1 p t s)))) ++ ((dB false h0 l0 ++ dB false h1 l1) ++ s) := by
    rw [f4s_eq h0 l0 h1 l1 p t s hp ht]
    unfold dE4 e4k
    simp only [ByteArray.append_assoc]
  have hx := k4_size h0 l0 h1 l1
  unfold e4k at hx
  unfold f4o
  rw [e, show 20 + s.size = 12 + (8 + s.size) by omega]
  refine lay_eq _ hN _ _ 12 _ (by rw [ByteArray.size_append, e4h_size, be2_size]) (by rw [ByteArray.size_append, hx]) (fun i hi => ?_) (fun i hi => ?_)
  · unfold f4b cpy
    rw [bt_app, e4h_size]
    split
    · rw [if_neg (by omega)]
    · rw [if_pos (by omega)]
      exact f4a_lo h0 l0 h1 l1 p t s hp ht i (by omega)
  · unfold f4b cpy
    rw [if_neg (by omega)]
    exact f4a_hi h0 l0 h1 l1 p t s i hi
/-- Both sides write the same bytes. -/
theorem enS_eq (h0 : Int) (l0 : Int) (h1 : Int) (l1 : Int) (p : Int) (t : Int) (s : ByteArray) (hp : 0 ≤ p ∧ p < 256) (ht : 0 ≤ t ∧ t < 256) (v0 v1 : Bool) : enS v0 h0 l0 v1 h1 l1 p t s = dE v0 h0 l0 v1 h1 l1 p t s := by
  unfold enS dE
  split
  · rename_i hm
    obtain ⟨rfl, _⟩ := my_ok hm
    unfold enB
    cases v1
    · rw [if_neg (by decide), if_neg (by decide)]
      exact f4_eq h0 l0 h1 l1 p t s hp ht
    · rw [if_pos rfl, if_pos rfl]
      exact f6_eq h0 l0 h1 l1 p t s hp ht
  · rfl
end Go.Proofs.YtndonmdgplojnaaGreatDoor

/- Both sides write the same bytes: the walk of IpWrites. -/
namespace Go.Proofs.YtndonmdgplojnaaGreatDoor
open Go.RowKit

set_option maxRecDepth 100000 in
set_option maxHeartbeats 4000000 in
set_option linter.unusedSimpArgs false in
theorem c_writes (v0 : Bool) (h0 l0 : Int) (v1 : Bool) (h1 l1 p t : Int) (s x : ByteArray) (hp : 0 ≤ p ∧ p < 256) (ht : 0 ≤ t ∧ t < 256) (w : World) (hL : Laid w)  :
    Calls Tryz.prog 3 #[.agg (av 9 (ls [.bool (v0), .int .u64 h0, .int .u64 l0, .bool (v1), .int .u64 h1, .int .u64 l1, .int .u8 p, .int .u8 t, .string s])), .string x] w fun r w' => r = .returned (.bool true) ∧ Below w.heap.size w w' := by
  go_enter Tryz.func3, Tryz.ntmps3
  have M := Mem.start hL
  refine wp_seq ?_
  refine rg_lit ?_
  refine pl_new M (want_no rfl) (some 2) rfl (.cells (av 9 (ls [.bool (v0), .int .u64 h0, .int .u64 l0, .bool (v1), .int .u64 h1, .int .u64 l1, .int .u8 p, .int .u8 t, .string s])) 26) (fun _ => by kernel_rfl) ?_
  intro g1 u1 M
  replace M : Mem ⟨w, []⟩ [⟨g1, .cells (av 9 (ls [.bool (v0), .int .u64 h0, .int .u64 l0, .bool (v1), .int .u64 h1, .int .u64 l1, .int .u8 p, .int .u8 t, .string s])) 26⟩] u1 := M
  refine pl_val (want_no rfl) (some 4) rfl (.bool false) (fun _ => by kernel_rfl) ?_
  refine pl_nil ?_
  refine au_then ?_
  refine wp_seq ?_
  refine wp_seq ?_
  refine rg_lit ?_
  refine pl_val (want_no rfl) (some 9) rfl (.pointer (some ⟨g1, 8, none⟩)) (fun _ => by kernel_rfl) ?_
  refine pl_cell M (want_no rfl) (some 10) rfl 9 _ rfl g1 8 (by kernel_rfl) (.string s) (fun _ => by kernel_rfl) (fun w M => M.cell 0 rfl (by decide) rfl) ?_
  refine pl_val (want_no rfl) (some 11) rfl (.int .i64 (s.size : Int)) (fun _ => by kernel_rfl) ?_
  by_cases c0 : 8192 < (s.size : Int)
  · skip
    refine pl_val (want_no rfl) (some 12) rfl (.bool true) (fun w => Eq.trans (b := .ok (.value (.bool (decide (8192 < (s.size : Int))))) w) (by kernel_rfl) (by rw [decide_eq_true (c0)])) ?_
    refine pl_val (want_no rfl) (some 13) rfl (.bool true) (fun _ => by kernel_rfl) ?_
    refine pl_skip (want_off 4 false rfl 13 rfl (by kernel_rfl)) (some 14) rfl ?_
    refine pl_skip (want_off 4 false rfl 13 rfl (by kernel_rfl)) (some 15) rfl ?_
    refine pl_skip (want_off 4 false rfl 13 rfl (by kernel_rfl)) (some 16) rfl ?_
    refine pl_val (want_no rfl) (some 17) rfl (.bool true) (fun _ => by kernel_rfl) ?_
    refine pl_nil ?_
    refine au_then ?_
    refine wp_cond_true (by kernel_rfl) ?_
    refine wp_seq ?_
    refine rg_lit ?_
    refine pl_call M (want_no rfl) (some 18) rfl 9 #[] (.bool true) (fun _ => by kernel_rfl) (fun w M => c_works w M.laid) ?_
    intro u2 M
    refine pl_val (want_no rfl) (some 4) rfl (.bool true) (fun _ => by kernel_rfl) ?_
    refine pl_nil ?_
    refine au_then ?_
    refine wp_ret ?_
    refine au_then_ret ?_
    exact bodyPost_ret (v := .bool true) (results_tmp1 Tryz.results3 _ _ _ (by kernel_rfl)) (by kernel_rfl) ⟨rfl, below_grown M.old⟩
  · skip
    refine pl_val (want_no rfl) (some 12) rfl (.bool false) (fun w => Eq.trans (b := .ok (.value (.bool (decide (8192 < (s.size : Int))))) w) (by kernel_rfl) (by rw [decide_eq_false (c0)])) ?_
    refine pl_val (want_no rfl) (some 13) rfl (.bool false) (fun _ => by kernel_rfl) ?_
    refine pl_val (want_on 4 false rfl 13 rfl (by kernel_rfl)) (some 14) rfl (.string x) (fun _ => by kernel_rfl) ?_
    refine pl_val (want_on 4 false rfl 13 rfl (by kernel_rfl)) (some 15) rfl (.int .i64 (x.size : Int)) (fun _ => by kernel_rfl) ?_
    by_cases c1 : 8192 < (x.size : Int)
    · skip
      refine pl_val (want_on 4 false rfl 13 rfl (by kernel_rfl)) (some 16) rfl (.bool true) (fun w => Eq.trans (b := .ok (.value (.bool (decide (8192 < (x.size : Int))))) w) (by kernel_rfl) (by rw [decide_eq_true (c1)])) ?_
      refine pl_val (want_no rfl) (some 17) rfl (.bool true) (fun _ => by kernel_rfl) ?_
      refine pl_nil ?_
      refine au_then ?_
      refine wp_cond_true (by kernel_rfl) ?_
      refine wp_seq ?_
      refine rg_lit ?_
      refine pl_call M (want_no rfl) (some 18) rfl 9 #[] (.bool true) (fun _ => by kernel_rfl) (fun w M => c_works w M.laid) ?_
      intro u2 M
      refine pl_val (want_no rfl) (some 4) rfl (.bool true) (fun _ => by kernel_rfl) ?_
      refine pl_nil ?_
      refine au_then ?_
      refine wp_ret ?_
      refine au_then_ret ?_
      exact bodyPost_ret (v := .bool true) (results_tmp1 Tryz.results3 _ _ _ (by kernel_rfl)) (by kernel_rfl) ⟨rfl, below_grown M.old⟩
    · skip
      refine pl_val (want_on 4 false rfl 13 rfl (by kernel_rfl)) (some 16) rfl (.bool false) (fun w => Eq.trans (b := .ok (.value (.bool (decide (8192 < (x.size : Int))))) w) (by kernel_rfl) (by rw [decide_eq_false (c1)])) ?_
      refine pl_val (want_no rfl) (some 17) rfl (.bool false) (fun _ => by kernel_rfl) ?_
      refine pl_nil ?_
      refine au_then ?_
      refine wp_cond_false (by kernel_rfl) ?_
      refine wp_skip ?_
      refine au_then ?_
      refine wp_seq ?_
      refine rg_lit ?_
      refine pl_load M (want_no rfl) (some 20) rfl 26 _ rfl 0 g1 0 (by kernel_rfl) 9 26 (ls [.bool (v0), .int .u64 h0, .int .u64 l0, .bool (v1), .int .u64 h1, .int .u64 l1, .int .u8 p, .int .u8 t, .string s]) rfl 9 (ls [.bool (v0), .int .u64 h0, .int .u64 l0, .bool (v1), .int .u64 h1, .int .u64 l1, .int .u8 p, .int .u8 t, .string s]) (fun j _ => by rw [Nat.zero_add]) (by decide) _ Tryz.underlying26 rfl inz26 ?_
      refine pl_call M (want_no rfl) (some 21) rfl 10 #[.agg (av 9 (ls [.bool (v0), .int .u64 h0, .int .u64 l0, .bool (v1), .int .u64 h1, .int .u64 l1, .int .u8 p, .int .u8 t, .string s]))] (.tuple #[.string (enS v0 h0 l0 v1 h1 l1 p t s), .int .i64 (my v0 h0 l0 v1 h1 l1 (s.size : Int))]) (fun _ => by kernel_rfl) (fun w M => c_Encode v0 h0 l0 v1 h1 l1 p t s (by omega) hp ht w M.laid) ?_
      intro u2 M
      refine pl_val (want_no rfl) (some 19) rfl (.tuple #[.string (enS v0 h0 l0 v1 h1 l1 p t s), .int .i64 (my v0 h0 l0 v1 h1 l1 (s.size : Int))]) (fun _ => by kernel_rfl) ?_
      refine pl_val (want_no rfl) (some 22) rfl (.string (enS v0 h0 l0 v1 h1 l1 p t s)) (fun _ => by kernel_rfl) ?_
      refine pl_val (want_no rfl) (some 23) rfl (.int .i64 (my v0 h0 l0 v1 h1 l1 (s.size : Int))) (fun _ => by kernel_rfl) ?_
      refine pl_val (want_no rfl) (some 5) rfl (.string (enS v0 h0 l0 v1 h1 l1 p t s)) (fun _ => by kernel_rfl) ?_
      refine pl_val (want_no rfl) (some 6) rfl (.int .i64 (my v0 h0 l0 v1 h1 l1 (s.size : Int))) (fun _ => by kernel_rfl) ?_
      refine pl_nil ?_
      refine au_then ?_
      refine wp_seq ?_
      refine rg_lit ?_
      refine pl_load M (want_no rfl) (some 25) rfl 26 _ rfl 0 g1 0 (by kernel_rfl) 9 26 (ls [.bool (v0), .int .u64 h0, .int .u64 l0, .bool (v1), .int .u64 h1, .int .u64 l1, .int .u8 p, .int .u8 t, .string s]) rfl 9 (ls [.bool (v0), .int .u64 h0, .int .u64 l0, .bool (v1), .int .u64 h1, .int .u64 l1, .int .u8 p, .int .u8 t, .string s]) (fun j _ => by rw [Nat.zero_add]) (by decide) _ Tryz.underlying26 rfl inz26 ?_
      refine pl_call M (want_no rfl) (some 26) rfl 11 #[.agg (av 9 (ls [.bool (v0), .int .u64 h0, .int .u64 l0, .bool (v1), .int .u64 h1, .int .u64 l1, .int .u8 p, .int .u8 t, .string s]))] (.tuple #[.string (enS v0 h0 l0 v1 h1 l1 p t s), .int .i64 (my v0 h0 l0 v1 h1 l1 (s.size : Int))]) (fun _ => by kernel_rfl) (fun w M => call_val (d_Encode v0 h0 l0 v1 h1 l1 p t s (by omega) hp ht w M.laid) (by rw [enS_eq h0 l0 h1 l1 p t s hp ht v0 v1])) ?_
      intro u3 M
      refine pl_val (want_no rfl) (some 24) rfl (.tuple #[.string (enS v0 h0 l0 v1 h1 l1 p t s), .int .i64 (my v0 h0 l0 v1 h1 l1 (s.size : Int))]) (fun _ => by kernel_rfl) ?_
      refine pl_val (want_no rfl) (some 27) rfl (.string (enS v0 h0 l0 v1 h1 l1 p t s)) (fun _ => by kernel_rfl) ?_
      refine pl_val (want_no rfl) (some 28) rfl (.int .i64 (my v0 h0 l0 v1 h1 l1 (s.size : Int))) (fun _ => by kernel_rfl) ?_
      refine pl_val (want_no rfl) (some 7) rfl (.string (enS v0 h0 l0 v1 h1 l1 p t s)) (fun _ => by kernel_rfl) ?_
      refine pl_val (want_no rfl) (some 8) rfl (.int .i64 (my v0 h0 l0 v1 h1 l1 (s.size : Int))) (fun _ => by kernel_rfl) ?_
      refine pl_nil ?_
      refine au_then ?_
      refine wp_seq ?_
      refine rg_tail M 25 (by kernel_rfl) (by kernel_rfl) ?_
      simp only [List.take_succ_cons, List.take_zero]
      refine k_val (want_no rfl) (some 29) rfl (.string (enS v0 h0 l0 v1 h1 l1 p t s)) (fun _ => by kernel_rfl) ?_
      refine k_val (want_no rfl) (some 30) rfl (.string (enS v0 h0 l0 v1 h1 l1 p t s)) (fun _ => by kernel_rfl) ?_
      refine k_val (want_no rfl) (some 31) rfl (.bool true) (fun w => Eq.trans (b := .ok (.value (.bool ((enS v0 h0 l0 v1 h1 l1 p t s).toList == (enS v0 h0 l0 v1 h1 l1 p t s).toList))) w) (by kernel_rfl) (by rw [beq_self_eq_true])) ?_
      refine k_val (want_no rfl) (some 32) rfl (.bool true) (fun _ => by kernel_rfl) ?_
      refine k_val (want_on 3 true rfl 32 rfl (by kernel_rfl)) (some 33) rfl (.int .i64 (my v0 h0 l0 v1 h1 l1 (s.size : Int))) (fun _ => by kernel_rfl) ?_
      refine k_val (want_on 3 true rfl 32 rfl (by kernel_rfl)) (some 34) rfl (.int .i64 (my v0 h0 l0 v1 h1 l1 (s.size : Int))) (fun _ => by kernel_rfl) ?_
      refine k_val (want_on 3 true rfl 32 rfl (by kernel_rfl)) (some 35) rfl (.bool true) (fun w => Eq.trans (b := .ok (.value (.bool (decide ((my v0 h0 l0 v1 h1 l1 (s.size : Int)) = (my v0 h0 l0 v1 h1 l1 (s.size : Int)))))) w) (by kernel_rfl) (by rw [decide_eq_true (by omega)])) ?_
      refine k_val (want_no rfl) (some 36) rfl (.bool true) (fun _ => by kernel_rfl) ?_
      refine k_val (want_no rfl) (some 37) rfl (.bool true) (fun _ => by kernel_rfl) ?_
      refine k_load M (want_on 8 true rfl 37 rfl (by kernel_rfl)) (some 38) rfl 26 _ rfl 0 g1 0 (by kernel_rfl) 9 26 (ls [.bool (v0), .int .u64 h0, .int .u64 l0, .bool (v1), .int .u64 h1, .int .u64 l1, .int .u8 p, .int .u8 t, .string s]) rfl 9 (ls [.bool (v0), .int .u64 h0, .int .u64 l0, .bool (v1), .int .u64 h1, .int .u64 l1, .int .u8 p, .int .u8 t, .string s]) (fun j _ => by rw [Nat.zero_add]) (by decide) _ Tryz.underlying26 rfl inz26 ?_
      refine k_call M (want_on 8 true rfl 37 rfl (by kernel_rfl)) (some 39) rfl 12 #[.agg (av 9 (ls [.bool (v0), .int .u64 h0, .int .u64 l0, .bool (v1), .int .u64 h1, .int .u64 l1, .int .u8 p, .int .u8 t, .string s]))] (.int .i64 (my v0 h0 l0 v1 h1 l1 (s.size : Int))) (fun _ => by kernel_rfl) (fun w M => c_May v0 h0 l0 v1 h1 l1 p t s (by omega) w M.laid) ?_
      refine k_load M (want_on 8 true rfl 37 rfl (by kernel_rfl)) (some 40) rfl 26 _ rfl 0 g1 0 (by kernel_rfl) 9 26 (ls [.bool (v0), .int .u64 h0, .int .u64 l0, .bool (v1), .int .u64 h1, .int .u64 l1, .int .u8 p, .int .u8 t, .string s]) rfl 9 (ls [.bool (v0), .int .u64 h0, .int .u64 l0, .bool (v1), .int .u64 h1, .int .u64 l1, .int .u8 p, .int .u8 t, .string s]) (fun j _ => by rw [Nat.zero_add]) (by decide) _ Tryz.underlying26 rfl inz26 ?_
      refine k_call M (want_on 8 true rfl 37 rfl (by kernel_rfl)) (some 41) rfl 13 #[.agg (av 9 (ls [.bool (v0), .int .u64 h0, .int .u64 l0, .bool (v1), .int .u64 h1, .int .u64 l1, .int .u8 p, .int .u8 t, .string s]))] (.int .i64 (my v0 h0 l0 v1 h1 l1 (s.size : Int))) (fun _ => by kernel_rfl) (fun w M => d_May v0 h0 l0 v1 h1 l1 p t s (by omega) w M.laid) ?_
      refine k_val (want_on 8 true rfl 37 rfl (by kernel_rfl)) (some 42) rfl (.bool true) (fun w => Eq.trans (b := .ok (.value (.bool (decide ((my v0 h0 l0 v1 h1 l1 (s.size : Int)) = (my v0 h0 l0 v1 h1 l1 (s.size : Int)))))) w) (by kernel_rfl) (by rw [decide_eq_true (by omega)])) ?_
      refine k_val (want_no rfl) (some 43) rfl (.bool true) (fun _ => by kernel_rfl) ?_
      refine k_val (want_no rfl) (some 44) rfl (.bool true) (fun _ => by kernel_rfl) ?_
      refine k_val (want_on 15 true rfl 44 rfl (by kernel_rfl)) (some 45) rfl (.string x) (fun _ => by kernel_rfl) ?_
      refine k_call M (want_on 15 true rfl 44 rfl (by kernel_rfl)) (some 46) rfl 14 #[.string x] (.int .u16 (sumS x)) (fun _ => by kernel_rfl) (fun w M => c_Sum x (by omega) w M.laid) ?_
      refine k_val (want_on 15 true rfl 44 rfl (by kernel_rfl)) (some 47) rfl (.string x) (fun _ => by kernel_rfl) ?_
      refine k_call M (want_on 15 true rfl 44 rfl (by kernel_rfl)) (some 48) rfl 15 #[.string x] (.int .u16 (sumS x)) (fun _ => by kernel_rfl) (fun w M => d_Sum x (by omega) w M.laid) ?_
      refine k_val (want_on 15 true rfl 44 rfl (by kernel_rfl)) (some 49) rfl (.bool true) (fun w => Eq.trans (b := .ok (.value (.bool (decide ((sumS x) = (sumS x))))) w) (by kernel_rfl) (by rw [decide_eq_true (by omega)])) ?_
      refine k_val (want_no rfl) (some 50) rfl (.bool true) (fun _ => by kernel_rfl) ?_
      refine k_val (want_no rfl) (some 51) rfl (.bool true) (fun _ => by kernel_rfl) ?_
      refine k_call M (want_on 22 true rfl 51 rfl (by kernel_rfl)) (some 52) rfl 9 #[] (.bool true) (fun _ => by kernel_rfl) (fun w M => c_works w M.laid) ?_
      refine k_val (want_no rfl) (some 53) rfl (.bool true) (fun _ => by kernel_rfl) ?_
      refine kl_nil ?_
      intro u4 M
      replace M : Mem ⟨w, []⟩ [⟨g1, .cells (av 9 (ls [.bool (v0), .int .u64 h0, .int .u64 l0, .bool (v1), .int .u64 h1, .int .u64 l1, .int .u8 p, .int .u8 t, .string s])) 26⟩] u4 := M
      refine pl_val (want_no rfl) (some 4) rfl (.bool true) (fun _ => by kernel_rfl) ?_
      refine pl_nil ?_
      refine au_then ?_
      refine wp_ret ?_
      exact bodyPost_ret (v := .bool true) (results_tmp1 Tryz.results3 _ _ _ (by kernel_rfl)) (by kernel_rfl) ⟨rfl, below_grown M.old⟩


end Go.Proofs.YtndonmdgplojnaaGreatDoor

/- The package variables: what the conditions give a walk; a world that meets them; arguments of each type, opened. -/
namespace Go.Proofs.YtndonmdgplojnaaGreatDoor
open Go.RowKit
set_option maxRecDepth 100000

def lay7 : List (String × DataW Unit) := [("math/bits.deBruijn32tab", Rows.laid_math_bits_deBruijn32tab), ("math/bits.deBruijn64tab", Rows.laid_math_bits_deBruijn64tab), ("internal/strconv.uint64pow10", Rows.laid_internal_strconv_uint64pow10), ("unicode/utf8.acceptRanges", Rows.laid_unicode_utf8_acceptRanges), ("strconv.ErrRange", Rows.laid_strconv_ErrRange), ("strconv.ErrSyntax", Rows.laid_strconv_ErrSyntax), ("unicode/utf8.first", Rows.laid_unicode_utf8_first)]
def db64 : List Int := [0, 1, 56, 2, 57, 49, 28, 3, 61, 58, 42, 50, 38, 29, 17, 4, 62, 47, 59, 36, 45, 43, 51, 22, 53, 39, 33, 30, 24, 18, 12, 5, 63, 55, 48, 27, 60, 41, 37, 16, 46, 35, 44, 21, 52, 32, 23, 11, 54, 26, 40, 15, 34, 20, 31, 10, 25, 14, 19, 9, 13, 8, 7, 6]
theorem tab_of {W : World} {name : String} {k : IntKind} {zs : List Int} {g : Nat} {t e : TypeId} {n : Nat} {d : DataW Unit} (hd : d = Lib.tabData k zs) (hg : Tryz.prog.globalNamed name = some g) (hty : (Tryz.prog.globals[g]?).map (·.type) = some t) (ht : Tryz.prog.underlying t = some (.array n e)) (he : Tryz.prog.underlying e = some (.int k)) (hce : Tryz.prog.cellsOf e = 1) (hct : Tryz.prog.cellsOf t = n)
    {g' : Nat} {t' : TypeId} {cs : Array Value} {fuel : Nat} {p : List MemPlace} (hg' : Tryz.prog.globalNamed name = some g') (ht' : (Tryz.prog.globals[g']?).map (·.type) = some t') (hv : W.var? Tryz.prog name = some cs) (h : DataW.trod (fun _ => ()) Tryz.prog W 0 (fun _ => true) false fuel t' cs.toList = some (d, p)) : Lib.TabIs Tryz.prog W name k zs := by
  subst hd
  obtain rfl := Option.some.inj (hg.symm.trans hg')
  obtain rfl := Option.some.inj (hty.symm.trans ht')
  unfold Lib.TabIs
  rw [hv, ← Lib.cells_of_tab ht he hce hct h]
theorem err_of {W : World} {name : String} {g : Nat} {nm : String} {d : DataW Unit} (hg : Tryz.prog.globalNamed name = some g) (hty : (Tryz.prog.globals[g]?).map (·.type) = some 90)
    {g' : Nat} {t' : TypeId} {cs : Array Value} {fuel : Nat} {p : List MemPlace} (hg' : Tryz.prog.globalNamed name = some g') (ht' : (Tryz.prog.globals[g']?).map (·.type) = some t') (hv : W.var? Tryz.prog name = some cs) (h : DataW.trod (fun _ => ()) Tryz.prog W 0 (fun _ => true) false fuel t' cs.toList = some (.iface nm d, p)) : ∃ t p, W.cell? ⟨g, 0, none⟩ = some (.iface t p) := by
  obtain rfl := Option.some.inj (hg.symm.trans hg')
  obtain rfl := Option.some.inj (hty.symm.trans ht')
  obtain ⟨_, u, v, hc, _⟩ := iface_of_trod Tryz.underlying90 h
  refine ⟨u, v, ?_⟩
  rw [World.var?_cell hg hv 0, ← Array.getElem?_toList, hc]
  rfl
theorem var_lt {W : World} {name : String} {g : Nat} {cs : Array Value} (hg : Tryz.prog.globalNamed name = some g) (hv : W.var? Tryz.prog name = some cs) : g < W.heap.size := by
  unfold World.var? at hv
  rw [hg, Option.bind_some] at hv
  by_cases h : g < W.heap.size
  · exact h
  · rw [Array.getElem?_eq_none (by omega)] at hv
    cases hv
theorem laid_of {W : World} (h0 : laidMetH Tryz.prog lay7 W) (hs : W.ShapedOpen Tryz.prog) : Laid W := by
  have h : laidMet Tryz.prog lay7 W := h0
  obtain ⟨ps, ⟨_, _, _, _, _, _, _, _, _, _, ⟨g2, t2, c2, f2, p2, _, hg2, ht2, hv2, hd2, ⟨g3, t3, c3, f3, p3, _, hg3, ht3, hv3, hd3, ⟨_, _, _, _, _, _, _, _, hv4, _, ⟨g5, t5, c5, f5, p5, _, hg5, ht5, hv5, hd5, ⟨g6, t6, c6, f6, p6, _, hg6, ht6, hv6, hd6, _, _⟩, _⟩, _⟩, _⟩, _⟩, _⟩, _⟩ := h
  refine ⟨cell_of_shapedOpen_int hs (g := 0) (t := 3) (zero := #[.int .i64 0]) (by decide) (by kernel_rfl) rfl (by kernel_rfl) (by kernel_rfl) Tryz.underlying3, ?_, ?_, ?_, ?_, ?_⟩
  · exact tab_of (g := 1) (by kernel_rfl) (by kernel_rfl) (by kernel_rfl) Tryz.underlying144 Tryz.underlying22 (by kernel_rfl) (by kernel_rfl) hg3 ht3 hv3 hd3
  · exact err_of (by kernel_rfl) (by kernel_rfl) hg6 ht6 hv6 hd6
  · exact err_of (by kernel_rfl) (by kernel_rfl) hg5 ht5 hv5 hd5
  · have := tab_of (g := 5) (zs := db64) (by kernel_rfl) (by kernel_rfl) (by kernel_rfl) Tryz.underlying166 Tryz.underlying5 (by kernel_rfl) (by kernel_rfl) hg2 ht2 hv2 hd2
    exact this.cell (by kernel_rfl) 15 (by decide)
  · have hg : Tryz.prog.globalNamed "unicode/utf8.acceptRanges" = some 7 := by kernel_rfl
    have := var_lt hg hv4
    omega
theorem lay_witness (os : Os) (args : Array Value) : laidMetH Tryz.prog lay7 ((World.laidAll Tryz.prog os lay7).forCall (fun _ _ => 0) ⟨#[], args, []⟩).memory := laidMet_laidAll (laid := lay7) args (by kernel_rfl) (by kernel_rfl)
/-- What the shape and the listed variables give a contract. -/
theorem handed_laid {H : Type} {enc : TypeId × Value → H} {os : Os} {f : FuncId} {fn : Func} {s : ChangeSpec} {conds : List PathCond} (own : ownKnob Tryz.prog.godebug = none) (started : os.Started) (noInit : Tryz.prog.inits.idxOf? f = none) (hfn : Tryz.prog.funcs[f]? = some fn)
    (wit : ∃ (w : World) (tape : Tape) (i : Input), w.os = os ∧ (w.forCall tape i).Shaped Tryz.checked.prog ∧ i.vars = [] ∧ Input.okWide Tryz.checked.prog (w.forCall tape i) .any w.heap.size f i ∧ ((s.pre enc Tryz.checked.prog fn conds false (w.forCall tape i).memory i.args ∧ laidMetH Tryz.checked.prog lay7 (w.forCall tape i).memory) ∧ sizedMet enc Tryz.checked.prog fn (OpenSpec.ofChange s) false (w.forCall tape i).memory i.args) ∧ ({} : Assume).holds Tryz.checked.prog (lone (Frame.enter Tryz.checked.prog f i.args .normal) [] (w.forCall tape i)))
    (contract : ∀ (W : World) (base : Nat) (args : Array Value) (ds gs : List (DataW H)) (before : List MemPlace), (∀ (j : Nat) t v, fn.params[j]? = some t → args[j]? = some v → Value.okWide Tryz.prog W .any base t v) → DataW.Whole enc Tryz.prog fn.params.toList s.vars false W args.toList ds gs before → Laid W →
      Calls Tryz.prog f args W fun e W' => ∃ v, e = .returned v ∧ s.post enc Tryz.prog fn false true false false W args v W') :
    ReturnsInHanded {} Tryz.checked os f .any (fun w args => (s.pre enc Tryz.checked.prog fn conds false w args ∧ laidMetH Tryz.checked.prog lay7 w) ∧ sizedMet enc Tryz.checked.prog fn (OpenSpec.ofChange s) false w args) (s.post enc Tryz.checked.prog fn false true false false) := by
  refine returnsInHanded_of_calls own started noInit wit fun w tape i _ hsh _ hok hpre _ => ?_
  obtain ⟨_, _, _, fn2, hfn2, _, _, _, _, hval⟩ := hok
  obtain rfl : fn2 = fn := Option.some.inj (hfn2.symm.trans hfn)
  obtain ⟨⟨⟨ds, gs, before, hw, _⟩, hx⟩, _⟩ := hpre
  have hx2 : laidMetH Tryz.prog lay7 (w.forCall tape i) := laidMetH.of_heap (by rfl) hx
  have hl : Laid (w.forCall tape i) := laid_of hx2 hsh
  have hw' := DataW.Whole.of_heap (w' := w.forCall tape i) (by rfl) hw
  refine (contract (w.forCall tape i) w.heap.size i.args ds gs before hval hw' hl).mono fun e W' ⟨v, he, hp⟩ => ?_
  subst he
  exact ChangeSpec.post_blind hp
theorem laidOut : laidOutB Tryz.prog = true := by kernel_rfl
theorem ownNone : ownKnob Tryz.prog.godebug = none := by kernel_rfl
section
variable {W : World} {b0 : Nat} {v : Value}
theorem cell_bool (h : Cell.okWide Tryz.prog W .any b0 4 v) : ∃ b, v = .bool b := by
  simp only [Cell.okWide, Tryz.underlying4] at h
  cases v <;> simp_all [Cell.ok, Tryz.underlying4]
theorem cell_u64 (h : Cell.okWide Tryz.prog W .any b0 22 v) : ∃ n, v = .int .u64 n ∧ 0 ≤ n ∧ n < 18446744073709551616 := by
  simp only [Cell.okWide, Tryz.underlying22] at h
  cases v <;> simp_all [Cell.ok, Tryz.underlying22]
  rename_i k n
  obtain ⟨rfl, h1, h2⟩ := h
  simp [IntKind.min, IntKind.max, IntKind.bits, IntKind.signed] at h1 h2
  exact ⟨h1, by omega⟩
theorem cell_u8 (h : Cell.okWide Tryz.prog W .any b0 5 v) : ∃ n, v = .int .u8 n ∧ 0 ≤ n ∧ n < 256 := by
  simp only [Cell.okWide, Tryz.underlying5] at h
  cases v <;> simp_all [Cell.ok, Tryz.underlying5]
  rename_i k n
  obtain ⟨rfl, h1, h2⟩ := h
  simp [IntKind.min, IntKind.max, IntKind.bits, IntKind.signed] at h1 h2
  exact ⟨h1, by omega⟩
theorem cell_str (h : Cell.okWide Tryz.prog W .any b0 9 v) : ∃ s, v = .string s := by
  simp only [Cell.okWide, Tryz.underlying9] at h
  cases v <;> simp_all [Cell.ok, Tryz.underlying9]
theorem op9 (h : Value.okWide Tryz.prog W .any b0 9 v) : ∃ s, v = .string s := by
  simp only [Value.okWide, Tryz.underlying9] at h
  exact cell_str h
theorem row_av (cs : Array Value) (l : List Value) (hs : cs.size = l.length) (h : ∀ i, i < l.length → cs[i]? = l[i]?) : cs = av l.length (ls l) := by
  apply Array.ext_getElem?
  intro i
  by_cases hi : i < l.length
  · rw [h i hi, av_get _ _ _ hi]
    unfold ls
    rw [getD_app, List.getElem?_eq_getElem hi]
    rfl
  · rw [Array.getElem?_eq_none (by omega), Array.getElem?_eq_none (by rw [av_size]; omega)]
end
theorem row_cells {W : World} {b0 : Nat} {t : TypeId} {v : Value} {fs : Array Field} {ts : List TypeId} (ht : Tryz.prog.underlying t = some (.struct fs)) (hc : Tryz.prog.cellTypes Tryz.prog.depth t = some ts) (hn : Tryz.prog.cellsOf t = ts.length) (h : Value.okWide Tryz.prog W .any b0 t v) : ∃ cs, v = .agg cs ∧ cs.size = ts.length ∧ ∀ (i : Nat) (u : TypeId), ts[i]? = some u → ∃ x, cs[i]? = some x ∧ Cell.okWide Tryz.prog W .any b0 u x := by
  simp only [Value.okWide, ht] at h
  obtain ⟨cs, rfl, h2, ts2, h3, _, h4⟩ := h
  rw [hc] at h3
  cases h3
  refine ⟨cs, rfl, by omega, fun i u hu => ?_⟩
  have hi := (List.getElem?_eq_some_iff.1 hu).1
  obtain ⟨u2, hu2, hx⟩ := h4 i cs[i] (Array.getElem?_eq_getElem (by omega))
  rw [Nat.mod_eq_of_lt hi, hu] at hu2
  cases hu2
  exact ⟨cs[i], Array.getElem?_eq_getElem (by omega), hx⟩
theorem op26 {W : World} {b0 : Nat} {v : Value} (h : Value.okWide Tryz.prog W .any b0 26 v) : ∃ (b0_ : Bool) (h0_ : Int) (l0_ : Int) (b1_ : Bool) (h1_ : Int) (l1_ : Int) (p_ : Int) (t_ : Int) (s_ : ByteArray), v = .agg (av 9 (ls [.bool b0_, .int .u64 h0_, .int .u64 l0_, .bool b1_, .int .u64 h1_, .int .u64 l1_, .int .u8 p_, .int .u8 t_, .string s_])) ∧ (0 ≤ h0_ ∧ h0_ < 18446744073709551616) ∧ (0 ≤ l0_ ∧ l0_ < 18446744073709551616) ∧ (0 ≤ h1_ ∧ h1_ < 18446744073709551616) ∧ (0 ≤ l1_ ∧ l1_ < 18446744073709551616) ∧ (0 ≤ p_ ∧ p_ < 256) ∧ (0 ≤ t_ ∧ t_ < 256) := by
  obtain ⟨cs, rfl, hs, hc⟩ := row_cells (ts := [4, 22, 22, 4, 22, 22, 5, 5, 9]) Tryz.underlying26 (by kernel_rfl) (by kernel_rfl) h
  obtain ⟨x0, e0, o0⟩ := hc 0 4 rfl
  obtain ⟨b0_, rfl⟩ := cell_bool o0
  obtain ⟨x1, e1, o1⟩ := hc 1 22 rfl
  obtain ⟨h0_, rfl, r1⟩ := cell_u64 o1
  obtain ⟨x2, e2, o2⟩ := hc 2 22 rfl
  obtain ⟨l0_, rfl, r2⟩ := cell_u64 o2
  obtain ⟨x3, e3, o3⟩ := hc 3 4 rfl
  obtain ⟨b1_, rfl⟩ := cell_bool o3
  obtain ⟨x4, e4, o4⟩ := hc 4 22 rfl
  obtain ⟨h1_, rfl, r4⟩ := cell_u64 o4
  obtain ⟨x5, e5, o5⟩ := hc 5 22 rfl
  obtain ⟨l1_, rfl, r5⟩ := cell_u64 o5
  obtain ⟨x6, e6, o6⟩ := hc 6 5 rfl
  obtain ⟨p_, rfl, r6⟩ := cell_u8 o6
  obtain ⟨x7, e7, o7⟩ := hc 7 5 rfl
  obtain ⟨t_, rfl, r7⟩ := cell_u8 o7
  obtain ⟨x8, e8, o8⟩ := hc 8 9 rfl
  obtain ⟨s_, rfl⟩ := cell_str o8
  refine ⟨b0_, h0_, l0_, b1_, h1_, l1_, p_, t_, s_, congrArg Value.agg (row_av cs [.bool b0_, .int .u64 h0_, .int .u64 l0_, .bool b1_, .int .u64 h1_, .int .u64 l1_, .int .u8 p_, .int .u8 t_, .string s_] hs fun i hi => ?_), r1, r2, r4, r5, r6, r7⟩
  rcases i with _ | _ | _ | _ | _ | _ | _ | _ | _ | i
  · exact e0
  · exact e1
  · exact e2
  · exact e3
  · exact e4
  · exact e5
  · exact e6
  · exact e7
  · exact e8
  · exact absurd hi (by simp)

end Go.Proofs.YtndonmdgplojnaaGreatDoor
