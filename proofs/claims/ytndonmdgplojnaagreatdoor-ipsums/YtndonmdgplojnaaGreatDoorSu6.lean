/- Part 6 of the walks and facts behind ipSums_holds. -/
import Derived.Test.YtndonmdgplojnaaGreatDoorSu5
import Derived.HandedShaped
import Derived.Lay
import Derived.OpenShut
import Derived.ProofKit
import Derived.Shelf.Vars
import Derived.Test.YtndonmdgplojnaaGreatDoorRows
import Derived.Test.YtndonmdgplojnaaGreatDoorTie
/- Texts that are read as addresses and prefixes: likely, Read, ReadPrefix. -/
namespace Go.Proofs.YtndonmdgplojnaaGreatDoor
open Go.RowKit

section
variable {P : Program} {ops : Array Oper} {rest : List Oper} {o : Oper} {a : Act} {w : World} {c : Ctx} {L : List Blk} {Q : Exit → Act → World → Prop}
theorem pl_callL (M : Mem c L w) (hw : Region.wanted o (yielded ops a.tmps) = true) (d : Option Tmp) (hd : o.dst = d) (f : FuncId) (args : Array Value) (v : Nat → Nat → Value) (K : Nat → Obj → Prop) (hrun : ∀ w, (execOp a.eval o).run P w = .ok (.enter f args) w)
    (hc : ∀ w, Mem c L w → Calls P f args w fun e w' => ∃ g cap Z, e = .returned (v g cap) ∧ w.heap.size ≤ g ∧ w'.heap[g]? = some Z ∧ K cap Z ∧ Below w.heap.size w w') (h : ∀ g cap Z w', K cap Z → Mem c (L ++ [⟨g, Z⟩]) w' → PL P ops Q rest (a.put d (v g cap)) w') : PL P ops Q (o :: rest) a w :=
  pl_callq hw d hd f args hrun ((hc w M).mono fun _ w' ⟨g, cap, Z, he, h1, h2, h3, hb⟩ => ⟨v g cap, he, h g cap Z w' h3 (M.new g Z hb h2 h1)⟩)
end
def q4 (l : List Int) : Nat → Int
  | 0 => 0
  | j + 1 => uo (sl (q4 l j) 8) (cv .u64 (tgi l j))
def lk4 (s : ByteArray) : Option Int := match nbs 10 255 s ⟨#[46]⟩ with
  | some l => if l.length = 4 then some (q4 l 4) else none
  | none => none
/-- Numbers, laid over others. -/
def cpl (f : Nat → Int) (od : Nat) (l : List Int) : Nat → Int := fun i => if od ≤ i ∧ i < od + l.length then tgi l (i - od) else f i
theorem cpl_w16 (f : Nat → Int) (od : Nat) (l : List Int) (j : Nat) : (if od ≤ j ∧ j < od + l.length then w16 (tgi l) (j - od) else w16 f j) = w16 (cpl f od l) j := by
  unfold w16 cpl
  split <;> rfl
theorem cpl_nil (f : Nat → Int) (od : Nat) : cpl f od [] = f := by
  funext i
  exact if_neg (by simp)
def g6 (l1 l2 : List Int) : Nat → Int := cpl (cpl (fun _ => 0) 0 l1) (8 - l2.length) l2
def lk6 (s : ByteArray) : Option (Int × Int) := match nbs 16 65535 (cuA s ⟨#[58, 58]⟩) ⟨#[58]⟩, nbs 16 65535 (cuB s ⟨#[58, 58]⟩) ⟨#[58]⟩ with
  | some l1, some l2 => if 8 < l1.length + l2.length then none else some (adH (g6 l1 l2), adL (g6 l1 l2))
  | _, _ => none
theorem cuA_le (s sep : ByteArray) : (cuA s sep).size ≤ s.size := by
  unfold cuA Lib.cut
  split
  · show (List.take _ _).length ≤ s.data.toList.length
    rw [List.length_take]
    omega
  · exact Nat.le_refl _
theorem cuB_le (s sep : ByteArray) : (cuB s sep).size ≤ s.size := by
  unfold cuB Lib.cut
  split
  · show (List.drop _ _).length ≤ s.data.toList.length
    rw [List.length_drop]
    omega
  · exact Nat.zero_le _
set_option maxRecDepth 100000 in
set_option maxHeartbeats 4000000 in
set_option linter.unusedSimpArgs false in
theorem c_likely4 (s : ByteArray) (hs : s.size ≤ 1000) (w : World) (hL : Laid w)  :
    Calls Tryz.prog 70 #[.string s] w fun r w' => r = .returned (.tuple #[.agg (av 3 (ls [.bool false, .int .u64 0, .int .u64 ((lk4 s).getD 0)])), .bool ((lk4 s).isSome)]) ∧ Below w.heap.size w w' := by
  go_enter Tryz.func70, Tryz.ntmps70
  have M := Mem.start hL
  refine wp_seq ?_
  refine rg_lit ?_
  refine pl_new M (want_no rfl) (some 2) rfl (.cells (av 3 (ls [.bool false, .int .u64 0, .int .u64 0])) 24) (fun _ => by kernel_rfl) ?_
  intro g1 u1 M
  replace M : Mem ⟨w, []⟩ [⟨g1, .cells (av 3 (ls [.bool false, .int .u64 0, .int .u64 0])) 24⟩] u1 := M
  refine pl_val (want_no rfl) (some 3) rfl (.bool false) (fun _ => by kernel_rfl) ?_
  refine pl_nil ?_
  refine au_then ?_
  refine wp_seq ?_
  refine rg_lit ?_
  refine pl_val (want_no rfl) (some 10) rfl (.string s) (fun _ => by kernel_rfl) ?_
  rcases hN1 : nbs 10 255 s ⟨#[46]⟩ with _ | l1
  · skip
    refine pl_call M (want_no rfl) (some 11) rfl 89 #[.string s, .string ⟨#[46]⟩, .int .i64 10, .int .i64 8] (.tuple #[.slice none 0 0, .bool false]) (fun _ => by kernel_rfl) (fun w M => c_nums10N s ⟨#[46]⟩ (hs) (by decide) hN1 w M.laid) ?_
    intro u2 M
    refine pl_val (want_no rfl) (some 9) rfl (.tuple #[.slice none 0 0, .bool false]) (fun _ => by kernel_rfl) ?_
    refine pl_val (want_no rfl) (some 12) rfl (.slice none 0 0) (fun _ => by kernel_rfl) ?_
    refine pl_val (want_no rfl) (some 13) rfl (.bool false) (fun _ => by kernel_rfl) ?_
    refine pl_val (want_no rfl) (some 4) rfl (.slice none 0 0) (fun _ => by kernel_rfl) ?_
    refine pl_val (want_no rfl) (some 5) rfl (.bool false) (fun _ => by kernel_rfl) ?_
    refine pl_nil ?_
    refine au_then ?_
    refine wp_seq ?_
    refine wp_seq ?_
    refine rg_lit ?_
    refine pl_val (want_no rfl) (some 14) rfl (.bool false) (fun _ => by kernel_rfl) ?_
    refine pl_val (want_no rfl) (some 15) rfl (.bool true) (fun _ => by kernel_rfl) ?_
    refine pl_val (want_no rfl) (some 16) rfl (.bool true) (fun _ => by kernel_rfl) ?_
    refine pl_skip (want_off 2 false rfl 16 rfl (by kernel_rfl)) (some 17) rfl ?_
    refine pl_skip (want_off 2 false rfl 16 rfl (by kernel_rfl)) (some 18) rfl ?_
    refine pl_skip (want_off 2 false rfl 16 rfl (by kernel_rfl)) (some 19) rfl ?_
    refine pl_val (want_no rfl) (some 20) rfl (.bool true) (fun _ => by kernel_rfl) ?_
    refine pl_nil ?_
    refine au_then ?_
    refine wp_cond_true (by kernel_rfl) ?_
    refine wp_seq ?_
    refine rg_lit ?_
    refine pl_val (want_no rfl) (some 21) rfl (.agg (av 3 (ls [.bool false, .int .u64 0, .int .u64 0]))) (fun _ => by kernel_rfl) ?_
    refine pl_put M (want_no rfl) rfl 24 _ _ rfl 0 g1 0 (by kernel_rfl) 3 24 (ls [.bool false, .int .u64 0, .int .u64 0]) rfl 3 (ls [.bool false, .int .u64 0, .int .u64 0]) (ls [.bool false, .int .u64 0, .int .u64 0]) (by kernel_rfl) inz24 (by decide) (one_ls _ rfl) (fun j hj => by rw [if_pos (by omega), Nat.sub_zero]) ?_
    intro u3 M
    replace M : Mem ⟨w, []⟩ [⟨g1, .cells (av 3 (ls [.bool false, .int .u64 0, .int .u64 0])) 24⟩] u3 := M
    refine pl_val (want_no rfl) (some 3) rfl (.bool false) (fun _ => by kernel_rfl) ?_
    refine pl_nil ?_
    refine au_then ?_
    refine wp_ret ?_
    refine au_then_ret ?_
    have e0 : ((lk4 s).getD 0) = 0 := by rw [(show lk4 s = none by unfold lk4; rw [hN1])]; rfl
    have e1 : (lk4 s).isSome = false := by rw [(show lk4 s = none by unfold lk4; rw [hN1])]; rfl
    exact bodyPost_ret (v := .tuple #[.agg (av 3 (ls [.bool false, .int .u64 0, .int .u64 0])), .bool false]) (results_cell_tmp Tryz.results70 _ _ g1 24 (av 3 (ls [.bool false, .int .u64 0, .int .u64 0])) (0, 0) _ _ (by kernel_rfl) (by kernel_rfl) (M.get 0 rfl) Tryz.underlying24 rfl (by rw [av_size]; exact inz24)) (by kernel_rfl) ⟨by rw [e0, e1], below_grown M.old⟩
  · skip
    by_cases he1 : l1 = []
    · skip
      subst he1
      refine pl_call M (want_no rfl) (some 11) rfl 89 #[.string s, .string ⟨#[46]⟩, .int .i64 10, .int .i64 8] (.tuple #[.slice none 0 0, .bool true]) (fun _ => by kernel_rfl) (fun w M => c_nums10E s ⟨#[46]⟩ (hs) (by decide) hN1 w M.laid) ?_
      intro u2 M
      refine pl_val (want_no rfl) (some 9) rfl (.tuple #[.slice none 0 0, .bool true]) (fun _ => by kernel_rfl) ?_
      refine pl_val (want_no rfl) (some 12) rfl (.slice none 0 0) (fun _ => by kernel_rfl) ?_
      refine pl_val (want_no rfl) (some 13) rfl (.bool true) (fun _ => by kernel_rfl) ?_
      refine pl_val (want_no rfl) (some 4) rfl (.slice none 0 0) (fun _ => by kernel_rfl) ?_
      refine pl_val (want_no rfl) (some 5) rfl (.bool true) (fun _ => by kernel_rfl) ?_
      refine pl_nil ?_
      refine au_then ?_
      refine wp_seq ?_
      refine wp_seq ?_
      refine rg_lit ?_
      refine pl_val (want_no rfl) (some 14) rfl (.bool true) (fun _ => by kernel_rfl) ?_
      refine pl_val (want_no rfl) (some 15) rfl (.bool false) (fun _ => by kernel_rfl) ?_
      refine pl_val (want_no rfl) (some 16) rfl (.bool false) (fun _ => by kernel_rfl) ?_
      refine pl_val (want_on 2 false rfl 16 rfl (by kernel_rfl)) (some 17) rfl (.slice none 0 0) (fun _ => by kernel_rfl) ?_
      refine pl_val (want_on 2 false rfl 16 rfl (by kernel_rfl)) (some 18) rfl (.int .i64 0) (fun _ => by kernel_rfl) ?_
      refine pl_val (want_on 2 false rfl 16 rfl (by kernel_rfl)) (some 19) rfl (.bool true) (fun _ => by kernel_rfl) ?_
      refine pl_val (want_no rfl) (some 20) rfl (.bool true) (fun _ => by kernel_rfl) ?_
      refine pl_nil ?_
      refine au_then ?_
      refine wp_cond_true (by kernel_rfl) ?_
      refine wp_seq ?_
      refine rg_lit ?_
      refine pl_val (want_no rfl) (some 21) rfl (.agg (av 3 (ls [.bool false, .int .u64 0, .int .u64 0]))) (fun _ => by kernel_rfl) ?_
      refine pl_put M (want_no rfl) rfl 24 _ _ rfl 0 g1 0 (by kernel_rfl) 3 24 (ls [.bool false, .int .u64 0, .int .u64 0]) rfl 3 (ls [.bool false, .int .u64 0, .int .u64 0]) (ls [.bool false, .int .u64 0, .int .u64 0]) (by kernel_rfl) inz24 (by decide) (one_ls _ rfl) (fun j hj => by rw [if_pos (by omega), Nat.sub_zero]) ?_
      intro u3 M
      replace M : Mem ⟨w, []⟩ [⟨g1, .cells (av 3 (ls [.bool false, .int .u64 0, .int .u64 0])) 24⟩] u3 := M
      refine pl_val (want_no rfl) (some 3) rfl (.bool false) (fun _ => by kernel_rfl) ?_
      refine pl_nil ?_
      refine au_then ?_
      refine wp_ret ?_
      refine au_then_ret ?_
      have e0 : ((lk4 s).getD 0) = 0 := by rw [(show lk4 s = none by unfold lk4; rw [hN1]; rfl)]; rfl
      have e1 : (lk4 s).isSome = false := by rw [(show lk4 s = none by unfold lk4; rw [hN1]; rfl)]; rfl
      exact bodyPost_ret (v := .tuple #[.agg (av 3 (ls [.bool false, .int .u64 0, .int .u64 0])), .bool false]) (results_cell_tmp Tryz.results70 _ _ g1 24 (av 3 (ls [.bool false, .int .u64 0, .int .u64 0])) (0, 0) _ _ (by kernel_rfl) (by kernel_rfl) (M.get 0 rfl) Tryz.underlying24 rfl (by rw [av_size]; exact inz24)) (by kernel_rfl) ⟨by rw [e0, e1], below_grown M.old⟩
    · skip
      refine pl_callL M (want_no rfl) (some 11) rfl 89 #[.string s, .string ⟨#[46]⟩, .int .i64 10, .int .i64 8] (fun g cap => .tuple #[.slice (some ⟨g, 0, none⟩) l1.length cap, .bool true]) (fun cap Z => SB Z cap (v16 l1)) (fun _ => by kernel_rfl) (fun w M => c_nums10L s ⟨#[46]⟩ (hs) (by decide) l1 he1 hN1 w M.laid) ?_
      intro gl1 cp1 Z1 u2 hZ1 M
      replace M : Mem ⟨w, []⟩ [⟨g1, .cells (av 3 (ls [.bool false, .int .u64 0, .int .u64 0])) 24⟩, ⟨gl1, Z1⟩] u2 := M
      refine pl_val (want_no rfl) (some 9) rfl (.tuple #[.slice (some ⟨gl1, 0, none⟩) l1.length cp1, .bool true]) (fun _ => by kernel_rfl) ?_
      refine pl_val (want_no rfl) (some 12) rfl (.slice (some ⟨gl1, 0, none⟩) l1.length cp1) (fun _ => by kernel_rfl) ?_
      refine pl_val (want_no rfl) (some 13) rfl (.bool true) (fun _ => by kernel_rfl) ?_
      refine pl_val (want_no rfl) (some 4) rfl (.slice (some ⟨gl1, 0, none⟩) l1.length cp1) (fun _ => by kernel_rfl) ?_
      refine pl_val (want_no rfl) (some 5) rfl (.bool true) (fun _ => by kernel_rfl) ?_
      refine pl_nil ?_
      refine au_then ?_
      refine wp_seq ?_
      refine wp_seq ?_
      refine rg_lit ?_
      refine pl_val (want_no rfl) (some 14) rfl (.bool true) (fun _ => by kernel_rfl) ?_
      refine pl_val (want_no rfl) (some 15) rfl (.bool false) (fun _ => by kernel_rfl) ?_
      refine pl_val (want_no rfl) (some 16) rfl (.bool false) (fun _ => by kernel_rfl) ?_
      refine pl_val (want_on 2 false rfl 16 rfl (by kernel_rfl)) (some 17) rfl (.slice (some ⟨gl1, 0, none⟩) l1.length cp1) (fun _ => by kernel_rfl) ?_
      refine pl_val (want_on 2 false rfl 16 rfl (by kernel_rfl)) (some 18) rfl (.int .i64 ((l1.length : Nat) : Int)) (fun _ => by kernel_rfl) ?_
      by_cases c2 : ((l1.length : Nat) : Int) = 4
      · skip
        refine pl_val (want_on 2 false rfl 16 rfl (by kernel_rfl)) (some 19) rfl (.bool false) (fun w => Eq.trans (b := .ok (.value (.bool (!(decide (((l1.length : Nat) : Int) = 4))))) w) (by kernel_rfl) (by rw [decide_eq_true (c2)]; rfl)) ?_
        refine pl_val (want_no rfl) (some 20) rfl (.bool false) (fun _ => by kernel_rfl) ?_
        refine pl_nil ?_
        refine au_then ?_
        refine wp_cond_false (by kernel_rfl) ?_
        refine wp_skip ?_
        refine au_then ?_
        refine wp_seq ?_
        refine rg_lit ?_
        refine pl_new M (want_no rfl) (some 6) rfl (.cells (av 3 (ls [.bool false, .int .u64 0, .int .u64 0])) 24) (fun _ => by kernel_rfl) ?_
        intro g2 u3 M
        replace M : Mem ⟨w, []⟩ [⟨g1, .cells (av 3 (ls [.bool false, .int .u64 0, .int .u64 0])) 24⟩, ⟨gl1, Z1⟩, ⟨g2, .cells (av 3 (ls [.bool false, .int .u64 0, .int .u64 0])) 24⟩] u3 := M
        refine pl_nil ?_
        refine au_then ?_
        refine wp_seq ?_
        refine wp_seq ?_
        refine rg_lit ?_
        refine pl_val (want_no rfl) (some 22) rfl (.slice (some ⟨gl1, 0, none⟩) l1.length cp1) (fun _ => by kernel_rfl) ?_
        refine pl_val (want_no rfl) (some 23) rfl (.int .i64 ((l1.length : Nat) : Int)) (fun _ => by kernel_rfl) ?_
        refine pl_val (want_no rfl) (some 24) rfl (.int .i64 0) (fun _ => by kernel_rfl) ?_
        refine pl_nil ?_
        refine au_then ?_
        refine wp_block ?_
        refine au_loop (fun j a w' => ∃ v1 : Nat → Value, a = ⟨#[.string s, undef, .pointer (some ⟨g1, 0, none⟩), .bool false, .slice (some ⟨gl1, 0, none⟩) l1.length cp1, .bool true, .pointer (some ⟨g2, 0, none⟩), undef, v1 8, .tuple #[.slice (some ⟨gl1, 0, none⟩) l1.length cp1, .bool true], .string s, .tuple #[.slice (some ⟨gl1, 0, none⟩) l1.length cp1, .bool true], .slice (some ⟨gl1, 0, none⟩) l1.length cp1, .bool true, .bool true, .bool false, .bool false, .slice (some ⟨gl1, 0, none⟩) l1.length cp1, .int .i64 ((l1.length : Nat) : Int), .bool false, .bool false, undef, .slice (some ⟨gl1, 0, none⟩) l1.length cp1, .int .i64 ((l1.length : Nat) : Int), .int .i64 (j : Int), v1 25, v1 26, v1 27, v1 28, v1 29, v1 30, v1 31, v1 32, v1 33, v1 34, v1 35, undef], []⟩ ∧ Mem ⟨w, []⟩ [⟨g1, .cells (av 3 (ls [.bool false, .int .u64 0, .int .u64 0])) 24⟩, ⟨gl1, Z1⟩, ⟨g2, .cells (av 3 (ls [.bool false, .int .u64 0, .int .u64 (q4 l1 j)])) 24⟩] w') 4 ⟨fun k_ => ([undef, undef, undef, undef, undef, undef, undef, undef, undef, undef, undef, undef, undef, undef, undef, undef, undef, undef, undef, undef, undef, undef, undef, undef, undef, undef, undef, undef] : List Value).getD (k_ - 8) undef, by kernel_rfl, M⟩ ?_ ?_
        · intro j a u0 hj hI
          obtain ⟨v1, rfl, M⟩ := hI
          refine wp_seq ?_
          refine rg_lit ?_
          refine pl_val (want_no rfl) (some 25) rfl (.bool true) (fun w => Eq.trans (b := .ok (.value (.bool (decide ((j : Int) < ((l1.length : Nat) : Int))))) w) (by kernel_rfl) (by rw [decide_eq_true (by omega)])) ?_
          refine pl_nil ?_
          refine au_then ?_
          refine wp_seq ?_
          refine wp_cond_true (by kernel_rfl) ?_
          refine wp_skip ?_
          refine au_then ?_
          refine wp_seq ?_
          refine wp_block ?_
          refine wp_seq ?_
          refine rg_lit ?_
          refine pl_val (want_no rfl) (some 26) rfl (.pointer (some ⟨gl1, j, none⟩)) (run_ix0 99 32 Tryz.underlying99 inz32 _ _ rfl gl1 l1.length cp1 (by kernel_rfl) .i64 j (by kernel_rfl) (by omega)) ?_
          refine pl_cell M (want_no rfl) (some 27) rfl 32 _ rfl gl1 j (by kernel_rfl) (.int .u16 (tgi l1 j)) (fun _ => by kernel_rfl) (fun w M => hZ1.cell (M.get 1 rfl) (v16_at _ _ (by omega))) ?_
          refine pl_val (want_no rfl) (some 8) rfl (.int .u16 (tgi l1 j)) (fun _ => by kernel_rfl) ?_
          refine pl_nil ?_
          refine au_then ?_
          refine rg_lit ?_
          refine pl_val (want_no rfl) (some 28) rfl (.pointer (some ⟨g2, 2, none⟩)) (fun _ => by kernel_rfl) ?_
          refine pl_cell M (want_no rfl) (some 29) rfl 22 _ rfl g2 2 (by kernel_rfl) (.int .u64 (q4 l1 j)) (fun _ => by kernel_rfl) (fun w M => M.cell 2 rfl (by decide) rfl) ?_
          refine pl_val (want_no rfl) (some 30) rfl (.int .u64 (sl (q4 l1 j) 8)) (fun _ => by kernel_rfl) ?_
          refine pl_val (want_no rfl) (some 31) rfl (.int .u16 (tgi l1 j)) (fun _ => by kernel_rfl) ?_
          refine pl_val (want_no rfl) (some 32) rfl (.int .u64 (cv .u64 (tgi l1 j))) (fun _ => by kernel_rfl) ?_
          refine pl_val (want_no rfl) (some 33) rfl (.int .u64 (uo (sl (q4 l1 j) 8) (cv .u64 (tgi l1 j)))) (fun _ => by kernel_rfl) ?_
          refine pl_val (want_no rfl) (some 34) rfl (.pointer (some ⟨g2, 2, none⟩)) (fun _ => by kernel_rfl) ?_
          refine pl_put1 M (want_no rfl) rfl 22 _ _ rfl 2 g2 2 (by kernel_rfl) 3 24 (ls [.bool false, .int .u64 0, .int .u64 (q4 l1 j)]) rfl (.int .u64 (uo (sl (q4 l1 j) 8) (cv .u64 (tgi l1 j)))) (ls [.bool false, .int .u64 0, .int .u64 (uo (sl (q4 l1 j) 8) (cv .u64 (tgi l1 j)))]) (by kernel_rfl) inz22 (by decide) rfl rfl (put_ls _ 2 _ _ rfl) ?_
          intro u4 M
          replace M : Mem ⟨w, []⟩ [⟨g1, .cells (av 3 (ls [.bool false, .int .u64 0, .int .u64 0])) 24⟩, ⟨gl1, Z1⟩, ⟨g2, .cells (av 3 (ls [.bool false, .int .u64 0, .int .u64 (uo (sl (q4 l1 j) 8) (cv .u64 (tgi l1 j)))])) 24⟩] u4 := M
          refine pl_nil ?_
          refine au_block ?_
          refine au_then ?_
          refine rg_lit ?_
          refine pl_val (want_no rfl) (some 35) rfl (.int .i64 ((j + 1 : Nat) : Int)) (fun w => Eq.trans (b := .ok (.value (.int .i64 (IntKind.wrap .i64 ((j : Int) + 1)))) w) (by kernel_rfl) (by rw [wrap64 (by omega) (by omega)]; congr 3)) ?_
          refine pl_val (want_no rfl) (some 24) rfl (.int .i64 ((j + 1 : Nat) : Int)) (fun _ => by kernel_rfl) ?_
          refine pl_nil ?_
          refine au_then ?_
          exact ⟨fun k_ => ([.int .u16 (tgi l1 j), undef, undef, undef, undef, undef, undef, undef, undef, undef, undef, undef, undef, undef, undef, undef, undef, .bool true, .pointer (some ⟨gl1, j, none⟩), .int .u16 (tgi l1 j), .pointer (some ⟨g2, 2, none⟩), .int .u64 (q4 l1 j), .int .u64 (sl (q4 l1 j) 8), .int .u16 (tgi l1 j), .int .u64 (cv .u64 (tgi l1 j)), .int .u64 (uo (sl (q4 l1 j) 8) (cv .u64 (tgi l1 j))), .pointer (some ⟨g2, 2, none⟩), .int .i64 ((j + 1 : Nat) : Int)] : List Value).getD (k_ - 8) undef, by kernel_rfl, M⟩
        · intro a u0 hI
          obtain ⟨v1, rfl, M⟩ := hI
          refine wp_seq ?_
          refine rg_lit ?_
          refine pl_val (want_no rfl) (some 25) rfl (.bool false) (fun w => Eq.trans (b := .ok (.value (.bool (decide ((4 : Int) < ((l1.length : Nat) : Int))))) w) (by kernel_rfl) (by rw [decide_eq_false (by omega)])) ?_
          refine pl_nil ?_
          refine au_then ?_
          refine wp_seq ?_
          refine wp_cond_false (by kernel_rfl) ?_
          refine wp_exit ?_
          refine au_then_exit ?_
          refine au_then_exit ?_
          refine au_block_exit ?_
          refine au_then ?_
          refine wp_seq ?_
          refine rg_lit ?_
          refine pl_load M (want_no rfl) (some 36) rfl 24 _ rfl 2 g2 0 (by kernel_rfl) 3 24 (ls [.bool false, .int .u64 0, .int .u64 (q4 l1 4)]) rfl 3 (ls [.bool false, .int .u64 0, .int .u64 (q4 l1 4)]) (fun j _ => by rw [Nat.zero_add]) (by decide) _ Tryz.underlying24 rfl inz24 ?_
          refine pl_put M (want_no rfl) rfl 24 _ _ rfl 0 g1 0 (by kernel_rfl) 3 24 (ls [.bool false, .int .u64 0, .int .u64 0]) rfl 3 (ls [.bool false, .int .u64 0, .int .u64 (q4 l1 4)]) (ls [.bool false, .int .u64 0, .int .u64 (q4 l1 4)]) (by kernel_rfl) inz24 (by decide) (one_ls _ rfl) (fun j hj => by rw [if_pos (by omega), Nat.sub_zero]) ?_
          intro u4 M
          replace M : Mem ⟨w, []⟩ [⟨g1, .cells (av 3 (ls [.bool false, .int .u64 0, .int .u64 (q4 l1 4)])) 24⟩, ⟨gl1, Z1⟩, ⟨g2, .cells (av 3 (ls [.bool false, .int .u64 0, .int .u64 (q4 l1 4)])) 24⟩] u4 := M
          refine pl_val (want_no rfl) (some 3) rfl (.bool true) (fun _ => by kernel_rfl) ?_
          refine pl_nil ?_
          refine au_then ?_
          refine wp_ret ?_
          have e0 : ((lk4 s).getD 0) = (q4 l1 4) := by rw [(show lk4 s = some (q4 l1 4) by unfold lk4; rw [hN1]; exact if_pos (by omega))]; rfl
          have e1 : (lk4 s).isSome = true := by rw [(show lk4 s = some (q4 l1 4) by unfold lk4; rw [hN1]; exact if_pos (by omega))]; rfl
          exact bodyPost_ret (v := .tuple #[.agg (av 3 (ls [.bool false, .int .u64 0, .int .u64 (q4 l1 4)])), .bool true]) (results_cell_tmp Tryz.results70 _ _ g1 24 (av 3 (ls [.bool false, .int .u64 0, .int .u64 (q4 l1 4)])) (0, 0) _ _ (by kernel_rfl) (by kernel_rfl) (M.get 0 rfl) Tryz.underlying24 rfl (by rw [av_size]; exact inz24)) (by kernel_rfl) ⟨by rw [e0, e1], below_grown M.old⟩
      · skip
        refine pl_val (want_on 2 false rfl 16 rfl (by kernel_rfl)) (some 19) rfl (.bool true) (fun w => Eq.trans (b := .ok (.value (.bool (!(decide (((l1.length : Nat) : Int) = 4))))) w) (by kernel_rfl) (by rw [decide_eq_false (c2)]; rfl)) ?_
        refine pl_val (want_no rfl) (some 20) rfl (.bool true) (fun _ => by kernel_rfl) ?_
        refine pl_nil ?_
        refine au_then ?_
        refine wp_cond_true (by kernel_rfl) ?_
        refine wp_seq ?_
        refine rg_lit ?_
        refine pl_val (want_no rfl) (some 21) rfl (.agg (av 3 (ls [.bool false, .int .u64 0, .int .u64 0]))) (fun _ => by kernel_rfl) ?_
        refine pl_put M (want_no rfl) rfl 24 _ _ rfl 0 g1 0 (by kernel_rfl) 3 24 (ls [.bool false, .int .u64 0, .int .u64 0]) rfl 3 (ls [.bool false, .int .u64 0, .int .u64 0]) (ls [.bool false, .int .u64 0, .int .u64 0]) (by kernel_rfl) inz24 (by decide) (one_ls _ rfl) (fun j hj => by rw [if_pos (by omega), Nat.sub_zero]) ?_
        intro u3 M
        replace M : Mem ⟨w, []⟩ [⟨g1, .cells (av 3 (ls [.bool false, .int .u64 0, .int .u64 0])) 24⟩, ⟨gl1, Z1⟩] u3 := M
        refine pl_val (want_no rfl) (some 3) rfl (.bool false) (fun _ => by kernel_rfl) ?_
        refine pl_nil ?_
        refine au_then ?_
        refine wp_ret ?_
        refine au_then_ret ?_
        have e0 : ((lk4 s).getD 0) = 0 := by rw [(show lk4 s = none by unfold lk4; rw [hN1]; exact if_neg (by omega))]; rfl
        have e1 : (lk4 s).isSome = false := by rw [(show lk4 s = none by unfold lk4; rw [hN1]; exact if_neg (by omega))]; rfl
        exact bodyPost_ret (v := .tuple #[.agg (av 3 (ls [.bool false, .int .u64 0, .int .u64 0])), .bool false]) (results_cell_tmp Tryz.results70 _ _ g1 24 (av 3 (ls [.bool false, .int .u64 0, .int .u64 0])) (0, 0) _ _ (by kernel_rfl) (by kernel_rfl) (M.get 0 rfl) Tryz.underlying24 rfl (by rw [av_size]; exact inz24)) (by kernel_rfl) ⟨by rw [e0, e1], below_grown M.old⟩

theorem nbs_len {b m : Int} {s sep : ByteArray} {l : List Int} (hs : s.size ≤ 1000) (h1 : 1 ≤ sep.size) (h : nbs b m s sep = some l) : l.length ≤ 1001 := by
  unfold nbs at h
  split at h
  · cases h
    decide
  · have := nl_len h
    have := spl_le s sep h1
    omega
set_option maxRecDepth 100000 in
set_option maxHeartbeats 4000000 in
set_option linter.unusedSimpArgs false in
theorem c_likely6 (s : ByteArray) (hs : s.size ≤ 1000) (w : World) (hL : Laid w)  :
    Calls Tryz.prog 69 #[.string s] w fun r w' => r = .returned (.tuple #[.agg (av 3 (ls [.bool ((lk6 s).isSome), .int .u64 ((lk6 s).getD (0, 0)).1, .int .u64 ((lk6 s).getD (0, 0)).2])), .bool ((lk6 s).isSome)]) ∧ Below w.heap.size w w' := by
  go_enter Tryz.func69, Tryz.ntmps69
  have M := Mem.start hL
  have hl1 : ∀ l, nbs 16 65535 (cuA s ⟨#[58, 58]⟩) ⟨#[58]⟩ = some l → l.length ≤ 1001 := fun l h => nbs_len (by have := cuA_le s ⟨#[58, 58]⟩; omega) (by decide) h
  have hl2 : ∀ l, nbs 16 65535 (cuB s ⟨#[58, 58]⟩) ⟨#[58]⟩ = some l → l.length ≤ 1001 := fun l h => nbs_len (by have := cuB_le s ⟨#[58, 58]⟩; omega) (by decide) h
  refine wp_seq ?_
  refine rg_lit ?_
  refine pl_new M (want_no rfl) (some 2) rfl (.cells (av 3 (ls [.bool false, .int .u64 0, .int .u64 0])) 24) (fun _ => by kernel_rfl) ?_
  intro g1 u1 M
  replace M : Mem ⟨w, []⟩ [⟨g1, .cells (av 3 (ls [.bool false, .int .u64 0, .int .u64 0])) 24⟩] u1 := M
  refine pl_val (want_no rfl) (some 3) rfl (.bool false) (fun _ => by kernel_rfl) ?_
  refine pl_nil ?_
  refine au_then ?_
  refine wp_seq ?_
  refine rg_lit ?_
  refine pl_val (want_no rfl) (some 13) rfl (.string s) (fun _ => by kernel_rfl) ?_
  refine pl_call M (want_no rfl) (some 14) rfl 46 #[.string s, .string ⟨#[58, 58]⟩] (.tuple #[.string (cuA s ⟨#[58, 58]⟩), .string (cuB s ⟨#[58, 58]⟩), .bool (cuC s ⟨#[58, 58]⟩)]) (fun _ => by kernel_rfl) (fun w M => c_Cut s ⟨#[58, 58]⟩ (by omega) w M.laid) ?_
  intro u2 M
  refine pl_val (want_no rfl) (some 12) rfl (.tuple #[.string (cuA s ⟨#[58, 58]⟩), .string (cuB s ⟨#[58, 58]⟩), .bool (cuC s ⟨#[58, 58]⟩)]) (fun _ => by kernel_rfl) ?_
  refine pl_val (want_no rfl) (some 15) rfl (.string (cuA s ⟨#[58, 58]⟩)) (fun _ => by kernel_rfl) ?_
  refine pl_val (want_no rfl) (some 16) rfl (.string (cuB s ⟨#[58, 58]⟩)) (fun _ => by kernel_rfl) ?_
  refine pl_val (want_no rfl) (some 17) rfl (.bool (cuC s ⟨#[58, 58]⟩)) (fun _ => by kernel_rfl) ?_
  refine pl_val (want_no rfl) (some 4) rfl (.string (cuA s ⟨#[58, 58]⟩)) (fun _ => by kernel_rfl) ?_
  refine pl_val (want_no rfl) (some 5) rfl (.string (cuB s ⟨#[58, 58]⟩)) (fun _ => by kernel_rfl) ?_
  refine pl_val (want_no rfl) (some 6) rfl (.bool (cuC s ⟨#[58, 58]⟩)) (fun _ => by kernel_rfl) ?_
  refine pl_nil ?_
  refine au_then ?_
  refine wp_seq ?_
  refine rg_lit ?_
  refine pl_val (want_no rfl) (some 19) rfl (.string (cuA s ⟨#[58, 58]⟩)) (fun _ => by kernel_rfl) ?_
  rcases hN1 : nbs 16 65535 (cuA s ⟨#[58, 58]⟩) ⟨#[58]⟩ with _ | l1
  · skip
    refine pl_call M (want_no rfl) (some 20) rfl 89 #[.string (cuA s ⟨#[58, 58]⟩), .string ⟨#[58]⟩, .int .i64 16, .int .i64 16] (.tuple #[.slice none 0 0, .bool false]) (fun _ => by kernel_rfl) (fun w M => c_nums16N (cuA s ⟨#[58, 58]⟩) ⟨#[58]⟩ (by have := cuA_le s ⟨#[58, 58]⟩; omega) (by decide) hN1 w M.laid) ?_
    intro u3 M
    refine pl_val (want_no rfl) (some 18) rfl (.tuple #[.slice none 0 0, .bool false]) (fun _ => by kernel_rfl) ?_
    refine pl_val (want_no rfl) (some 21) rfl (.slice none 0 0) (fun _ => by kernel_rfl) ?_
    refine pl_val (want_no rfl) (some 22) rfl (.bool false) (fun _ => by kernel_rfl) ?_
    refine pl_val (want_no rfl) (some 7) rfl (.slice none 0 0) (fun _ => by kernel_rfl) ?_
    refine pl_val (want_no rfl) (some 8) rfl (.bool false) (fun _ => by kernel_rfl) ?_
    refine pl_nil ?_
    refine au_then ?_
    refine wp_seq ?_
    refine rg_lit ?_
    refine pl_val (want_no rfl) (some 24) rfl (.string (cuB s ⟨#[58, 58]⟩)) (fun _ => by kernel_rfl) ?_
    rcases hN2 : nbs 16 65535 (cuB s ⟨#[58, 58]⟩) ⟨#[58]⟩ with _ | l2
    · skip
      refine pl_call M (want_no rfl) (some 25) rfl 89 #[.string (cuB s ⟨#[58, 58]⟩), .string ⟨#[58]⟩, .int .i64 16, .int .i64 16] (.tuple #[.slice none 0 0, .bool false]) (fun _ => by kernel_rfl) (fun w M => c_nums16N (cuB s ⟨#[58, 58]⟩) ⟨#[58]⟩ (by have := cuB_le s ⟨#[58, 58]⟩; omega) (by decide) hN2 w M.laid) ?_
      intro u4 M
      refine pl_val (want_no rfl) (some 23) rfl (.tuple #[.slice none 0 0, .bool false]) (fun _ => by kernel_rfl) ?_
      refine pl_val (want_no rfl) (some 26) rfl (.slice none 0 0) (fun _ => by kernel_rfl) ?_
      refine pl_val (want_no rfl) (some 27) rfl (.bool false) (fun _ => by kernel_rfl) ?_
      refine pl_val (want_no rfl) (some 9) rfl (.slice none 0 0) (fun _ => by kernel_rfl) ?_
      refine pl_val (want_no rfl) (some 10) rfl (.bool false) (fun _ => by kernel_rfl) ?_
      refine pl_nil ?_
      refine au_then ?_
      refine wp_seq ?_
      refine rg_lit ?_
      refine pl_new M (want_no rfl) (some 11) rfl (.cells (av 8 (w16 (fun _ => 0))) 94) (fun _ => by kernel_rfl) ?_
      intro g2 u5 M
      replace M : Mem ⟨w, []⟩ [⟨g1, .cells (av 3 (ls [.bool false, .int .u64 0, .int .u64 0])) 24⟩, ⟨g2, .cells (av 8 (w16 (fun _ => 0))) 94⟩] u5 := M
      refine pl_nil ?_
      refine au_then ?_
      refine wp_seq ?_
      refine wp_seq ?_
      refine rg_lit ?_
      refine pl_val (want_no rfl) (some 28) rfl (.bool false) (fun _ => by kernel_rfl) ?_
      refine pl_val (want_no rfl) (some 29) rfl (.bool true) (fun _ => by kernel_rfl) ?_
      refine pl_val (want_no rfl) (some 30) rfl (.bool true) (fun _ => by kernel_rfl) ?_
      refine pl_skip (want_off 2 false rfl 30 rfl (by kernel_rfl)) (some 31) rfl ?_
      refine pl_skip (want_off 2 false rfl 30 rfl (by kernel_rfl)) (some 32) rfl ?_
      refine pl_val (want_no rfl) (some 33) rfl (.bool true) (fun _ => by kernel_rfl) ?_
      refine pl_val (want_no rfl) (some 34) rfl (.bool true) (fun _ => by kernel_rfl) ?_
      refine pl_skip (want_off 6 false rfl 34 rfl (by kernel_rfl)) (some 35) rfl ?_
      refine pl_skip (want_off 6 false rfl 34 rfl (by kernel_rfl)) (some 36) rfl ?_
      refine pl_skip (want_off 6 false rfl 34 rfl (by kernel_rfl)) (some 37) rfl ?_
      refine pl_skip (want_off 6 false rfl 34 rfl (by kernel_rfl)) (some 38) rfl ?_
      refine pl_skip (want_off 6 false rfl 34 rfl (by kernel_rfl)) (some 39) rfl ?_
      refine pl_skip (want_off 6 false rfl 34 rfl (by kernel_rfl)) (some 40) rfl ?_
      refine pl_val (want_no rfl) (some 41) rfl (.bool true) (fun _ => by kernel_rfl) ?_
      refine pl_nil ?_
      refine au_then ?_
      refine wp_cond_true (by kernel_rfl) ?_
      refine wp_seq ?_
      refine rg_lit ?_
      refine pl_val (want_no rfl) (some 42) rfl (.agg (av 3 (ls [.bool false, .int .u64 0, .int .u64 0]))) (fun _ => by kernel_rfl) ?_
      refine pl_put M (want_no rfl) rfl 24 _ _ rfl 0 g1 0 (by kernel_rfl) 3 24 (ls [.bool false, .int .u64 0, .int .u64 0]) rfl 3 (ls [.bool false, .int .u64 0, .int .u64 0]) (ls [.bool false, .int .u64 0, .int .u64 0]) (by kernel_rfl) inz24 (by decide) (one_ls _ rfl) (fun j hj => by rw [if_pos (by omega), Nat.sub_zero]) ?_
      intro u6 M
      replace M : Mem ⟨w, []⟩ [⟨g1, .cells (av 3 (ls [.bool false, .int .u64 0, .int .u64 0])) 24⟩, ⟨g2, .cells (av 8 (w16 (fun _ => 0))) 94⟩] u6 := M
      refine pl_val (want_no rfl) (some 3) rfl (.bool false) (fun _ => by kernel_rfl) ?_
      refine pl_nil ?_
      refine au_then ?_
      refine wp_ret ?_
      refine au_then_ret ?_
      have e0 : (lk6 s).isSome = false := by rw [(show lk6 s = none by unfold lk6; rw [hN1, hN2])]; rfl
      have e1 : ((lk6 s).getD (0, 0)).1 = 0 := by rw [(show lk6 s = none by unfold lk6; rw [hN1, hN2])]; rfl
      have e2 : ((lk6 s).getD (0, 0)).2 = 0 := by rw [(show lk6 s = none by unfold lk6; rw [hN1, hN2])]; rfl
      exact bodyPost_ret (v := .tuple #[.agg (av 3 (ls [.bool false, .int .u64 0, .int .u64 0])), .bool false]) (results_cell_tmp Tryz.results69 _ _ g1 24 (av 3 (ls [.bool false, .int .u64 0, .int .u64 0])) (0, 0) _ _ (by kernel_rfl) (by kernel_rfl) (M.get 0 rfl) Tryz.underlying24 rfl (by rw [av_size]; exact inz24)) (by kernel_rfl) ⟨by rw [e0, e1, e2], below_grown M.old⟩
    · skip
      by_cases he2 : l2 = []
      · skip
        subst he2
        refine pl_call M (want_no rfl) (some 25) rfl 89 #[.string (cuB s ⟨#[58, 58]⟩), .string ⟨#[58]⟩, .int .i64 16, .int .i64 16] (.tuple #[.slice none 0 0, .bool true]) (fun _ => by kernel_rfl) (fun w M => c_nums16E (cuB s ⟨#[58, 58]⟩) ⟨#[58]⟩ (by have := cuB_le s ⟨#[58, 58]⟩; omega) (by decide) hN2 w M.laid) ?_
        intro u4 M
        refine pl_val (want_no rfl) (some 23) rfl (.tuple #[.slice none 0 0, .bool true]) (fun _ => by kernel_rfl) ?_
        refine pl_val (want_no rfl) (some 26) rfl (.slice none 0 0) (fun _ => by kernel_rfl) ?_
        refine pl_val (want_no rfl) (some 27) rfl (.bool true) (fun _ => by kernel_rfl) ?_
        refine pl_val (want_no rfl) (some 9) rfl (.slice none 0 0) (fun _ => by kernel_rfl) ?_
        refine pl_val (want_no rfl) (some 10) rfl (.bool true) (fun _ => by kernel_rfl) ?_
        refine pl_nil ?_
        refine au_then ?_
        refine wp_seq ?_
        refine rg_lit ?_
        refine pl_new M (want_no rfl) (some 11) rfl (.cells (av 8 (w16 (fun _ => 0))) 94) (fun _ => by kernel_rfl) ?_
        intro g2 u5 M
        replace M : Mem ⟨w, []⟩ [⟨g1, .cells (av 3 (ls [.bool false, .int .u64 0, .int .u64 0])) 24⟩, ⟨g2, .cells (av 8 (w16 (fun _ => 0))) 94⟩] u5 := M
        refine pl_nil ?_
        refine au_then ?_
        refine wp_seq ?_
        refine wp_seq ?_
        refine rg_lit ?_
        refine pl_val (want_no rfl) (some 28) rfl (.bool false) (fun _ => by kernel_rfl) ?_
        refine pl_val (want_no rfl) (some 29) rfl (.bool true) (fun _ => by kernel_rfl) ?_
        refine pl_val (want_no rfl) (some 30) rfl (.bool true) (fun _ => by kernel_rfl) ?_
        refine pl_skip (want_off 2 false rfl 30 rfl (by kernel_rfl)) (some 31) rfl ?_
        refine pl_skip (want_off 2 false rfl 30 rfl (by kernel_rfl)) (some 32) rfl ?_
        refine pl_val (want_no rfl) (some 33) rfl (.bool true) (fun _ => by kernel_rfl) ?_
        refine pl_val (want_no rfl) (some 34) rfl (.bool true) (fun _ => by kernel_rfl) ?_
        refine pl_skip (want_off 6 false rfl 34 rfl (by kernel_rfl)) (some 35) rfl ?_
        refine pl_skip (want_off 6 false rfl 34 rfl (by kernel_rfl)) (some 36) rfl ?_
        refine pl_skip (want_off 6 false rfl 34 rfl (by kernel_rfl)) (some 37) rfl ?_
        refine pl_skip (want_off 6 false rfl 34 rfl (by kernel_rfl)) (some 38) rfl ?_
        refine pl_skip (want_off 6 false rfl 34 rfl (by kernel_rfl)) (some 39) rfl ?_
        refine pl_skip (want_off 6 false rfl 34 rfl (by kernel_rfl)) (some 40) rfl ?_
        refine pl_val (want_no rfl) (some 41) rfl (.bool true) (fun _ => by kernel_rfl) ?_
        refine pl_nil ?_
        refine au_then ?_
        refine wp_cond_true (by kernel_rfl) ?_
        refine wp_seq ?_
        refine rg_lit ?_
        refine pl_val (want_no rfl) (some 42) rfl (.agg (av 3 (ls [.bool false, .int .u64 0, .int .u64 0]))) (fun _ => by kernel_rfl) ?_
        refine pl_put M (want_no rfl) rfl 24 _ _ rfl 0 g1 0 (by kernel_rfl) 3 24 (ls [.bool false, .int .u64 0, .int .u64 0]) rfl 3 (ls [.bool false, .int .u64 0, .int .u64 0]) (ls [.bool false, .int .u64 0, .int .u64 0]) (by kernel_rfl) inz24 (by decide) (one_ls _ rfl) (fun j hj => by rw [if_pos (by omega), Nat.sub_zero]) ?_
        intro u6 M
        replace M : Mem ⟨w, []⟩ [⟨g1, .cells (av 3 (ls [.bool false, .int .u64 0, .int .u64 0])) 24⟩, ⟨g2, .cells (av 8 (w16 (fun _ => 0))) 94⟩] u6 := M
        refine pl_val (want_no rfl) (some 3) rfl (.bool false) (fun _ => by kernel_rfl) ?_
        refine pl_nil ?_
        refine au_then ?_
        refine wp_ret ?_
        refine au_then_ret ?_
        have e0 : (lk6 s).isSome = false := by rw [(show lk6 s = none by unfold lk6; rw [hN1, hN2])]; rfl
        have e1 : ((lk6 s).getD (0, 0)).1 = 0 := by rw [(show lk6 s = none by unfold lk6; rw [hN1, hN2])]; rfl
        have e2 : ((lk6 s).getD (0, 0)).2 = 0 := by rw [(show lk6 s = none by unfold lk6; rw [hN1, hN2])]; rfl
        exact bodyPost_ret (v := .tuple #[.agg (av 3 (ls [.bool false, .int .u64 0, .int .u64 0])), .bool false]) (results_cell_tmp Tryz.results69 _ _ g1 24 (av 3 (ls [.bool false, .int .u64 0, .int .u64 0])) (0, 0) _ _ (by kernel_rfl) (by kernel_rfl) (M.get 0 rfl) Tryz.underlying24 rfl (by rw [av_size]; exact inz24)) (by kernel_rfl) ⟨by rw [e0, e1, e2], below_grown M.old⟩
      · skip
        refine pl_callL M (want_no rfl) (some 25) rfl 89 #[.string (cuB s ⟨#[58, 58]⟩), .string ⟨#[58]⟩, .int .i64 16, .int .i64 16] (fun g cap => .tuple #[.slice (some ⟨g, 0, none⟩) l2.length cap, .bool true]) (fun cap Z => SB Z cap (v16 l2)) (fun _ => by kernel_rfl) (fun w M => c_nums16L (cuB s ⟨#[58, 58]⟩) ⟨#[58]⟩ (by have := cuB_le s ⟨#[58, 58]⟩; omega) (by decide) l2 he2 hN2 w M.laid) ?_
        intro gl2 cp2 Z2 u4 hZ2 M
        replace M : Mem ⟨w, []⟩ [⟨g1, .cells (av 3 (ls [.bool false, .int .u64 0, .int .u64 0])) 24⟩, ⟨gl2, Z2⟩] u4 := M
        refine pl_val (want_no rfl) (some 23) rfl (.tuple #[.slice (some ⟨gl2, 0, none⟩) l2.length cp2, .bool true]) (fun _ => by kernel_rfl) ?_
        refine pl_val (want_no rfl) (some 26) rfl (.slice (some ⟨gl2, 0, none⟩) l2.length cp2) (fun _ => by kernel_rfl) ?_
        refine pl_val (want_no rfl) (some 27) rfl (.bool true) (fun _ => by kernel_rfl) ?_
        refine pl_val (want_no rfl) (some 9) rfl (.slice (some ⟨gl2, 0, none⟩) l2.length cp2) (fun _ => by kernel_rfl) ?_
        refine pl_val (want_no rfl) (some 10) rfl (.bool true) (fun _ => by kernel_rfl) ?_
        refine pl_nil ?_
        refine au_then ?_
        refine wp_seq ?_
        refine rg_lit ?_
        refine pl_new M (want_no rfl) (some 11) rfl (.cells (av 8 (w16 (fun _ => 0))) 94) (fun _ => by kernel_rfl) ?_
        intro g2 u5 M
        replace M : Mem ⟨w, []⟩ [⟨g1, .cells (av 3 (ls [.bool false, .int .u64 0, .int .u64 0])) 24⟩, ⟨gl2, Z2⟩, ⟨g2, .cells (av 8 (w16 (fun _ => 0))) 94⟩] u5 := M
        refine pl_nil ?_
        refine au_then ?_
        refine wp_seq ?_
        refine wp_seq ?_
        refine rg_lit ?_
        refine pl_val (want_no rfl) (some 28) rfl (.bool false) (fun _ => by kernel_rfl) ?_
        refine pl_val (want_no rfl) (some 29) rfl (.bool true) (fun _ => by kernel_rfl) ?_
        refine pl_val (want_no rfl) (some 30) rfl (.bool true) (fun _ => by kernel_rfl) ?_
        refine pl_skip (want_off 2 false rfl 30 rfl (by kernel_rfl)) (some 31) rfl ?_
        refine pl_skip (want_off 2 false rfl 30 rfl (by kernel_rfl)) (some 32) rfl ?_
        refine pl_val (want_no rfl) (some 33) rfl (.bool true) (fun _ => by kernel_rfl) ?_
        refine pl_val (want_no rfl) (some 34) rfl (.bool true) (fun _ => by kernel_rfl) ?_
        refine pl_skip (want_off 6 false rfl 34 rfl (by kernel_rfl)) (some 35) rfl ?_
        refine pl_skip (want_off 6 false rfl 34 rfl (by kernel_rfl)) (some 36) rfl ?_
        refine pl_skip (want_off 6 false rfl 34 rfl (by kernel_rfl)) (some 37) rfl ?_
        refine pl_skip (want_off 6 false rfl 34 rfl (by kernel_rfl)) (some 38) rfl ?_
        refine pl_skip (want_off 6 false rfl 34 rfl (by kernel_rfl)) (some 39) rfl ?_
        refine pl_skip (want_off 6 false rfl 34 rfl (by kernel_rfl)) (some 40) rfl ?_
        refine pl_val (want_no rfl) (some 41) rfl (.bool true) (fun _ => by kernel_rfl) ?_
        refine pl_nil ?_
        refine au_then ?_
        refine wp_cond_true (by kernel_rfl) ?_
        refine wp_seq ?_
        refine rg_lit ?_
        refine pl_val (want_no rfl) (some 42) rfl (.agg (av 3 (ls [.bool false, .int .u64 0, .int .u64 0]))) (fun _ => by kernel_rfl) ?_
        refine pl_put M (want_no rfl) rfl 24 _ _ rfl 0 g1 0 (by kernel_rfl) 3 24 (ls [.bool false, .int .u64 0, .int .u64 0]) rfl 3 (ls [.bool false, .int .u64 0, .int .u64 0]) (ls [.bool false, .int .u64 0, .int .u64 0]) (by kernel_rfl) inz24 (by decide) (one_ls _ rfl) (fun j hj => by rw [if_pos (by omega), Nat.sub_zero]) ?_
        intro u6 M
        replace M : Mem ⟨w, []⟩ [⟨g1, .cells (av 3 (ls [.bool false, .int .u64 0, .int .u64 0])) 24⟩, ⟨gl2, Z2⟩, ⟨g2, .cells (av 8 (w16 (fun _ => 0))) 94⟩] u6 := M
        refine pl_val (want_no rfl) (some 3) rfl (.bool false) (fun _ => by kernel_rfl) ?_
        refine pl_nil ?_
        refine au_then ?_
        refine wp_ret ?_
        refine au_then_ret ?_
        have e0 : (lk6 s).isSome = false := by rw [(show lk6 s = none by unfold lk6; rw [hN1, hN2])]; rfl
        have e1 : ((lk6 s).getD (0, 0)).1 = 0 := by rw [(show lk6 s = none by unfold lk6; rw [hN1, hN2])]; rfl
        have e2 : ((lk6 s).getD (0, 0)).2 = 0 := by rw [(show lk6 s = none by unfold lk6; rw [hN1, hN2])]; rfl
        exact bodyPost_ret (v := .tuple #[.agg (av 3 (ls [.bool false, .int .u64 0, .int .u64 0])), .bool false]) (results_cell_tmp Tryz.results69 _ _ g1 24 (av 3 (ls [.bool false, .int .u64 0, .int .u64 0])) (0, 0) _ _ (by kernel_rfl) (by kernel_rfl) (M.get 0 rfl) Tryz.underlying24 rfl (by rw [av_size]; exact inz24)) (by kernel_rfl) ⟨by rw [e0, e1, e2], below_grown M.old⟩
  · skip
    by_cases he1 : l1 = []
    · skip
      subst he1
      refine pl_call M (want_no rfl) (some 20) rfl 89 #[.string (cuA s ⟨#[58, 58]⟩), .string ⟨#[58]⟩, .int .i64 16, .int .i64 16] (.tuple #[.slice none 0 0, .bool true]) (fun _ => by kernel_rfl) (fun w M => c_nums16E (cuA s ⟨#[58, 58]⟩) ⟨#[58]⟩ (by have := cuA_le s ⟨#[58, 58]⟩; omega) (by decide) hN1 w M.laid) ?_
      intro u3 M
      refine pl_val (want_no rfl) (some 18) rfl (.tuple #[.slice none 0 0, .bool true]) (fun _ => by kernel_rfl) ?_
      refine pl_val (want_no rfl) (some 21) rfl (.slice none 0 0) (fun _ => by kernel_rfl) ?_
      refine pl_val (want_no rfl) (some 22) rfl (.bool true) (fun _ => by kernel_rfl) ?_
      refine pl_val (want_no rfl) (some 7) rfl (.slice none 0 0) (fun _ => by kernel_rfl) ?_
      refine pl_val (want_no rfl) (some 8) rfl (.bool true) (fun _ => by kernel_rfl) ?_
      refine pl_nil ?_
      refine au_then ?_
      refine wp_seq ?_
      refine rg_lit ?_
      refine pl_val (want_no rfl) (some 24) rfl (.string (cuB s ⟨#[58, 58]⟩)) (fun _ => by kernel_rfl) ?_
      rcases hN2 : nbs 16 65535 (cuB s ⟨#[58, 58]⟩) ⟨#[58]⟩ with _ | l2
      · skip
        refine pl_call M (want_no rfl) (some 25) rfl 89 #[.string (cuB s ⟨#[58, 58]⟩), .string ⟨#[58]⟩, .int .i64 16, .int .i64 16] (.tuple #[.slice none 0 0, .bool false]) (fun _ => by kernel_rfl) (fun w M => c_nums16N (cuB s ⟨#[58, 58]⟩) ⟨#[58]⟩ (by have := cuB_le s ⟨#[58, 58]⟩; omega) (by decide) hN2 w M.laid) ?_
        intro u4 M
        refine pl_val (want_no rfl) (some 23) rfl (.tuple #[.slice none 0 0, .bool false]) (fun _ => by kernel_rfl) ?_
        refine pl_val (want_no rfl) (some 26) rfl (.slice none 0 0) (fun _ => by kernel_rfl) ?_
        refine pl_val (want_no rfl) (some 27) rfl (.bool false) (fun _ => by kernel_rfl) ?_
        refine pl_val (want_no rfl) (some 9) rfl (.slice none 0 0) (fun _ => by kernel_rfl) ?_
        refine pl_val (want_no rfl) (some 10) rfl (.bool false) (fun _ => by kernel_rfl) ?_
        refine pl_nil ?_
        refine au_then ?_
        refine wp_seq ?_
        refine rg_lit ?_
        refine pl_new M (want_no rfl) (some 11) rfl (.cells (av 8 (w16 (fun _ => 0))) 94) (fun _ => by kernel_rfl) ?_
        intro g2 u5 M
        replace M : Mem ⟨w, []⟩ [⟨g1, .cells (av 3 (ls [.bool false, .int .u64 0, .int .u64 0])) 24⟩, ⟨g2, .cells (av 8 (w16 (fun _ => 0))) 94⟩] u5 := M
        refine pl_nil ?_
        refine au_then ?_
        refine wp_seq ?_
        refine wp_seq ?_
        refine rg_lit ?_
        refine pl_val (want_no rfl) (some 28) rfl (.bool true) (fun _ => by kernel_rfl) ?_
        refine pl_val (want_no rfl) (some 29) rfl (.bool false) (fun _ => by kernel_rfl) ?_
        refine pl_val (want_no rfl) (some 30) rfl (.bool false) (fun _ => by kernel_rfl) ?_
        refine pl_val (want_on 2 false rfl 30 rfl (by kernel_rfl)) (some 31) rfl (.bool false) (fun _ => by kernel_rfl) ?_
        refine pl_val (want_on 2 false rfl 30 rfl (by kernel_rfl)) (some 32) rfl (.bool true) (fun _ => by kernel_rfl) ?_
        refine pl_val (want_no rfl) (some 33) rfl (.bool true) (fun _ => by kernel_rfl) ?_
        refine pl_val (want_no rfl) (some 34) rfl (.bool true) (fun _ => by kernel_rfl) ?_
        refine pl_skip (want_off 6 false rfl 34 rfl (by kernel_rfl)) (some 35) rfl ?_
        refine pl_skip (want_off 6 false rfl 34 rfl (by kernel_rfl)) (some 36) rfl ?_
        refine pl_skip (want_off 6 false rfl 34 rfl (by kernel_rfl)) (some 37) rfl ?_
        refine pl_skip (want_off 6 false rfl 34 rfl (by kernel_rfl)) (some 38) rfl ?_
        refine pl_skip (want_off 6 false rfl 34 rfl (by kernel_rfl)) (some 39) rfl ?_
        refine pl_skip (want_off 6 false rfl 34 rfl (by kernel_rfl)) (some 40) rfl ?_
        refine pl_val (want_no rfl) (some 41) rfl (.bool true) (fun _ => by kernel_rfl) ?_
        refine pl_nil ?_
        refine au_then ?_
        refine wp_cond_true (by kernel_rfl) ?_
        refine wp_seq ?_
        refine rg_lit ?_
        refine pl_val (want_no rfl) (some 42) rfl (.agg (av 3 (ls [.bool false, .int .u64 0, .int .u64 0]))) (fun _ => by kernel_rfl) ?_
        refine pl_put M (want_no rfl) rfl 24 _ _ rfl 0 g1 0 (by kernel_rfl) 3 24 (ls [.bool false, .int .u64 0, .int .u64 0]) rfl 3 (ls [.bool false, .int .u64 0, .int .u64 0]) (ls [.bool false, .int .u64 0, .int .u64 0]) (by kernel_rfl) inz24 (by decide) (one_ls _ rfl) (fun j hj => by rw [if_pos (by omega), Nat.sub_zero]) ?_
        intro u6 M
        replace M : Mem ⟨w, []⟩ [⟨g1, .cells (av 3 (ls [.bool false, .int .u64 0, .int .u64 0])) 24⟩, ⟨g2, .cells (av 8 (w16 (fun _ => 0))) 94⟩] u6 := M
        refine pl_val (want_no rfl) (some 3) rfl (.bool false) (fun _ => by kernel_rfl) ?_
        refine pl_nil ?_
        refine au_then ?_
        refine wp_ret ?_
        refine au_then_ret ?_
        have e0 : (lk6 s).isSome = false := by rw [(show lk6 s = none by unfold lk6; rw [hN1, hN2])]; rfl
        have e1 : ((lk6 s).getD (0, 0)).1 = 0 := by rw [(show lk6 s = none by unfold lk6; rw [hN1, hN2])]; rfl
        have e2 : ((lk6 s).getD (0, 0)).2 = 0 := by rw [(show lk6 s = none by unfold lk6; rw [hN1, hN2])]; rfl
        exact bodyPost_ret (v := .tuple #[.agg (av 3 (ls [.bool false, .int .u64 0, .int .u64 0])), .bool false]) (results_cell_tmp Tryz.results69 _ _ g1 24 (av 3 (ls [.bool false, .int .u64 0, .int .u64 0])) (0, 0) _ _ (by kernel_rfl) (by kernel_rfl) (M.get 0 rfl) Tryz.underlying24 rfl (by rw [av_size]; exact inz24)) (by kernel_rfl) ⟨by rw [e0, e1, e2], below_grown M.old⟩
      · skip
        by_cases he2 : l2 = []
        · skip
          subst he2
          refine pl_call M (want_no rfl) (some 25) rfl 89 #[.string (cuB s ⟨#[58, 58]⟩), .string ⟨#[58]⟩, .int .i64 16, .int .i64 16] (.tuple #[.slice none 0 0, .bool true]) (fun _ => by kernel_rfl) (fun w M => c_nums16E (cuB s ⟨#[58, 58]⟩) ⟨#[58]⟩ (by have := cuB_le s ⟨#[58, 58]⟩; omega) (by decide) hN2 w M.laid) ?_
          intro u4 M
          refine pl_val (want_no rfl) (some 23) rfl (.tuple #[.slice none 0 0, .bool true]) (fun _ => by kernel_rfl) ?_
          refine pl_val (want_no rfl) (some 26) rfl (.slice none 0 0) (fun _ => by kernel_rfl) ?_
          refine pl_val (want_no rfl) (some 27) rfl (.bool true) (fun _ => by kernel_rfl) ?_
          refine pl_val (want_no rfl) (some 9) rfl (.slice none 0 0) (fun _ => by kernel_rfl) ?_
          refine pl_val (want_no rfl) (some 10) rfl (.bool true) (fun _ => by kernel_rfl) ?_
          refine pl_nil ?_
          refine au_then ?_
          refine wp_seq ?_
          refine rg_lit ?_
          refine pl_new M (want_no rfl) (some 11) rfl (.cells (av 8 (w16 (fun _ => 0))) 94) (fun _ => by kernel_rfl) ?_
          intro g2 u5 M
          replace M : Mem ⟨w, []⟩ [⟨g1, .cells (av 3 (ls [.bool false, .int .u64 0, .int .u64 0])) 24⟩, ⟨g2, .cells (av 8 (w16 (fun _ => 0))) 94⟩] u5 := M
          refine pl_nil ?_
          refine au_then ?_
          refine wp_seq ?_
          refine wp_seq ?_
          refine rg_lit ?_
          refine pl_val (want_no rfl) (some 28) rfl (.bool true) (fun _ => by kernel_rfl) ?_
          refine pl_val (want_no rfl) (some 29) rfl (.bool false) (fun _ => by kernel_rfl) ?_
          refine pl_val (want_no rfl) (some 30) rfl (.bool false) (fun _ => by kernel_rfl) ?_
          refine pl_val (want_on 2 false rfl 30 rfl (by kernel_rfl)) (some 31) rfl (.bool true) (fun _ => by kernel_rfl) ?_
          refine pl_val (want_on 2 false rfl 30 rfl (by kernel_rfl)) (some 32) rfl (.bool false) (fun _ => by kernel_rfl) ?_
          refine pl_val (want_no rfl) (some 33) rfl (.bool false) (fun _ => by kernel_rfl) ?_
          refine pl_val (want_no rfl) (some 34) rfl (.bool false) (fun _ => by kernel_rfl) ?_
          refine pl_val (want_on 6 false rfl 34 rfl (by kernel_rfl)) (some 35) rfl (.slice none 0 0) (fun _ => by kernel_rfl) ?_
          refine pl_val (want_on 6 false rfl 34 rfl (by kernel_rfl)) (some 36) rfl (.int .i64 0) (fun _ => by kernel_rfl) ?_
          refine pl_val (want_on 6 false rfl 34 rfl (by kernel_rfl)) (some 37) rfl (.slice none 0 0) (fun _ => by kernel_rfl) ?_
          refine pl_val (want_on 6 false rfl 34 rfl (by kernel_rfl)) (some 38) rfl (.int .i64 0) (fun _ => by kernel_rfl) ?_
          refine pl_val (want_on 6 false rfl 34 rfl (by kernel_rfl)) (some 39) rfl (.int .i64 0) (fun _ => by kernel_rfl) ?_
          refine pl_val (want_on 6 false rfl 34 rfl (by kernel_rfl)) (some 40) rfl (.bool false) (fun _ => by kernel_rfl) ?_
          refine pl_val (want_no rfl) (some 41) rfl (.bool false) (fun _ => by kernel_rfl) ?_
          refine pl_nil ?_
          refine au_then ?_
          refine wp_cond_false (by kernel_rfl) ?_
          refine wp_skip ?_
          refine au_then ?_
          refine wp_seq ?_
          refine rg_lit ?_
          refine pl_val (want_no rfl) (some 43) rfl (.slice (some ⟨g2, 0, none⟩) 8 8) (fun _ => by kernel_rfl) ?_
          refine pl_val (want_no rfl) (some 44) rfl (.slice none 0 0) (fun _ => by kernel_rfl) ?_
          refine pl_val (want_no rfl) (some 45) rfl (.int .i64 0) (fun _ => by kernel_rfl) ?_
          refine pl_nil ?_
          refine au_then ?_
          refine wp_seq ?_
          refine rg_lit ?_
          refine pl_val (want_no rfl) (some 46) rfl (.slice none 0 0) (fun _ => by kernel_rfl) ?_
          refine pl_val (want_no rfl) (some 47) rfl (.int .i64 0) (fun _ => by kernel_rfl) ?_
          refine pl_val (want_no rfl) (some 48) rfl (.int .i64 8) (fun _ => by kernel_rfl) ?_
          refine pl_val (want_no rfl) (some 49) rfl (.slice (some ⟨g2, 0, none⟩) 0 0) (run_slAL 94 32 Tryz.underlying94 inz32 _ _ rfl g2 (by kernel_rfl) .i64 8 (by kernel_rfl) (by decide)) ?_
          refine pl_val (want_no rfl) (some 50) rfl (.slice none 0 0) (fun _ => by kernel_rfl) ?_
          refine pl_val (want_no rfl) (some 51) rfl (.int .i64 0) (fun _ => by kernel_rfl) ?_
          refine pl_nil ?_
          refine au_then ?_
          refine wp_seq ?_
          refine rg_lit ?_
          refine pl_load M (want_no rfl) (some 52) rfl 94 _ rfl 1 g2 0 (by kernel_rfl) 8 94 (w16 (fun _ => 0)) rfl 8 (w16 (fun _ => 0)) (fun j _ => by rw [Nat.zero_add]) (by decide) _ Tryz.underlying94 rfl inz94 ?_
          refine pl_call M (want_no rfl) (some 53) rfl 90 #[.agg (av 8 (w16 (fun _ => 0)))] (.agg (av 3 (ls [.bool true, .int .u64 (adH (fun _ => 0)), .int .u64 (adL (fun _ => 0))]))) (fun _ => by kernel_rfl) (fun w M => c_addr (fun _ => 0) w M.laid) ?_
          intro u6 M
          refine pl_put M (want_no rfl) rfl 24 _ _ rfl 0 g1 0 (by kernel_rfl) 3 24 (ls [.bool false, .int .u64 0, .int .u64 0]) rfl 3 (ls [.bool true, .int .u64 (adH (fun _ => 0)), .int .u64 (adL (fun _ => 0))]) (ls [.bool true, .int .u64 (adH (fun _ => 0)), .int .u64 (adL (fun _ => 0))]) (by kernel_rfl) inz24 (by decide) (one_ls _ rfl) (fun j hj => by rw [if_pos (by omega), Nat.sub_zero]) ?_
          intro u7 M
          replace M : Mem ⟨w, []⟩ [⟨g1, .cells (av 3 (ls [.bool true, .int .u64 (adH (fun _ => 0)), .int .u64 (adL (fun _ => 0))])) 24⟩, ⟨g2, .cells (av 8 (w16 (fun _ => 0))) 94⟩] u7 := M
          refine pl_val (want_no rfl) (some 3) rfl (.bool true) (fun _ => by kernel_rfl) ?_
          refine pl_nil ?_
          refine au_then ?_
          refine wp_ret ?_
          have e0 : (lk6 s).isSome = true := by rw [(show lk6 s = some (adH (g6 [] []), adL (g6 [] [])) by unfold lk6; rw [hN1, hN2]; exact if_neg (by decide))]; rfl
          have e1 : ((lk6 s).getD (0, 0)).1 = (adH (fun _ => 0)) := by rw [(show lk6 s = some (adH (g6 [] []), adL (g6 [] [])) by unfold lk6; rw [hN1, hN2]; exact if_neg (by decide))]; show adH (g6 [] []) = _; unfold g6; rw [cpl_nil, cpl_nil]
          have e2 : ((lk6 s).getD (0, 0)).2 = (adL (fun _ => 0)) := by rw [(show lk6 s = some (adH (g6 [] []), adL (g6 [] [])) by unfold lk6; rw [hN1, hN2]; exact if_neg (by decide))]; show adL (g6 [] []) = _; unfold g6; rw [cpl_nil, cpl_nil]
          exact bodyPost_ret (v := .tuple #[.agg (av 3 (ls [.bool true, .int .u64 (adH (fun _ => 0)), .int .u64 (adL (fun _ => 0))])), .bool true]) (results_cell_tmp Tryz.results69 _ _ g1 24 (av 3 (ls [.bool true, .int .u64 (adH (fun _ => 0)), .int .u64 (adL (fun _ => 0))])) (0, 0) _ _ (by kernel_rfl) (by kernel_rfl) (M.get 0 rfl) Tryz.underlying24 rfl (by rw [av_size]; exact inz24)) (by kernel_rfl) ⟨by rw [e0, e1, e2], below_grown M.old⟩
        · skip
          refine pl_callL M (want_no rfl) (some 25) rfl 89 #[.string (cuB s ⟨#[58, 58]⟩), .string ⟨#[58]⟩, .int .i64 16, .int .i64 16] (fun g cap => .tuple #[.slice (some ⟨g, 0, none⟩) l2.length cap, .bool true]) (fun cap Z => SB Z cap (v16 l2)) (fun _ => by kernel_rfl) (fun w M => c_nums16L (cuB s ⟨#[58, 58]⟩) ⟨#[58]⟩ (by have := cuB_le s ⟨#[58, 58]⟩; omega) (by decide) l2 he2 hN2 w M.laid) ?_
          intro gl2 cp2 Z2 u4 hZ2 M
          replace M : Mem ⟨w, []⟩ [⟨g1, .cells (av 3 (ls [.bool false, .int .u64 0, .int .u64 0])) 24⟩, ⟨gl2, Z2⟩] u4 := M
          refine pl_val (want_no rfl) (some 23) rfl (.tuple #[.slice (some ⟨gl2, 0, none⟩) l2.length cp2, .bool true]) (fun _ => by kernel_rfl) ?_
          refine pl_val (want_no rfl) (some 26) rfl (.slice (some ⟨gl2, 0, none⟩) l2.length cp2) (fun _ => by kernel_rfl) ?_
          refine pl_val (want_no rfl) (some 27) rfl (.bool true) (fun _ => by kernel_rfl) ?_
          refine pl_val (want_no rfl) (some 9) rfl (.slice (some ⟨gl2, 0, none⟩) l2.length cp2) (fun _ => by kernel_rfl) ?_
          refine pl_val (want_no rfl) (some 10) rfl (.bool true) (fun _ => by kernel_rfl) ?_
          refine pl_nil ?_
          refine au_then ?_
          refine wp_seq ?_
          refine rg_lit ?_
          refine pl_new M (want_no rfl) (some 11) rfl (.cells (av 8 (w16 (fun _ => 0))) 94) (fun _ => by kernel_rfl) ?_
          intro g2 u5 M
          replace M : Mem ⟨w, []⟩ [⟨g1, .cells (av 3 (ls [.bool false, .int .u64 0, .int .u64 0])) 24⟩, ⟨gl2, Z2⟩, ⟨g2, .cells (av 8 (w16 (fun _ => 0))) 94⟩] u5 := M
          refine pl_nil ?_
          refine au_then ?_
          refine wp_seq ?_
          refine wp_seq ?_
          refine rg_lit ?_
          refine pl_val (want_no rfl) (some 28) rfl (.bool true) (fun _ => by kernel_rfl) ?_
          refine pl_val (want_no rfl) (some 29) rfl (.bool false) (fun _ => by kernel_rfl) ?_
          refine pl_val (want_no rfl) (some 30) rfl (.bool false) (fun _ => by kernel_rfl) ?_
          refine pl_val (want_on 2 false rfl 30 rfl (by kernel_rfl)) (some 31) rfl (.bool true) (fun _ => by kernel_rfl) ?_
          refine pl_val (want_on 2 false rfl 30 rfl (by kernel_rfl)) (some 32) rfl (.bool false) (fun _ => by kernel_rfl) ?_
          refine pl_val (want_no rfl) (some 33) rfl (.bool false) (fun _ => by kernel_rfl) ?_
          refine pl_val (want_no rfl) (some 34) rfl (.bool false) (fun _ => by kernel_rfl) ?_
          refine pl_val (want_on 6 false rfl 34 rfl (by kernel_rfl)) (some 35) rfl (.slice none 0 0) (fun _ => by kernel_rfl) ?_
          refine pl_val (want_on 6 false rfl 34 rfl (by kernel_rfl)) (some 36) rfl (.int .i64 0) (fun _ => by kernel_rfl) ?_
          refine pl_val (want_on 6 false rfl 34 rfl (by kernel_rfl)) (some 37) rfl (.slice (some ⟨gl2, 0, none⟩) l2.length cp2) (fun _ => by kernel_rfl) ?_
          refine pl_val (want_on 6 false rfl 34 rfl (by kernel_rfl)) (some 38) rfl (.int .i64 ((l2.length : Nat) : Int)) (fun _ => by kernel_rfl) ?_
          have hq2 := hl2 l2 hN2
          refine pl_val (want_on 6 false rfl 34 rfl (by kernel_rfl)) (some 39) rfl (.int .i64 (0 + ((l2.length : Nat) : Int))) (fun w => Eq.trans (b := .ok (.value (.int .i64 (cv .i64 (0 + ((l2.length : Nat) : Int))))) w) (by kernel_rfl) (by rw [cv_i64 (by omega) (by omega)])) ?_
          by_cases c4 : 8 < (0 + ((l2.length : Nat) : Int))
          · skip
            refine pl_val (want_on 6 false rfl 34 rfl (by kernel_rfl)) (some 40) rfl (.bool true) (fun w => Eq.trans (b := .ok (.value (.bool (decide (8 < (0 + ((l2.length : Nat) : Int)))))) w) (by kernel_rfl) (by rw [decide_eq_true (c4)])) ?_
            refine pl_val (want_no rfl) (some 41) rfl (.bool true) (fun _ => by kernel_rfl) ?_
            refine pl_nil ?_
            refine au_then ?_
            refine wp_cond_true (by kernel_rfl) ?_
            refine wp_seq ?_
            refine rg_lit ?_
            refine pl_val (want_no rfl) (some 42) rfl (.agg (av 3 (ls [.bool false, .int .u64 0, .int .u64 0]))) (fun _ => by kernel_rfl) ?_
            refine pl_put M (want_no rfl) rfl 24 _ _ rfl 0 g1 0 (by kernel_rfl) 3 24 (ls [.bool false, .int .u64 0, .int .u64 0]) rfl 3 (ls [.bool false, .int .u64 0, .int .u64 0]) (ls [.bool false, .int .u64 0, .int .u64 0]) (by kernel_rfl) inz24 (by decide) (one_ls _ rfl) (fun j hj => by rw [if_pos (by omega), Nat.sub_zero]) ?_
            intro u6 M
            replace M : Mem ⟨w, []⟩ [⟨g1, .cells (av 3 (ls [.bool false, .int .u64 0, .int .u64 0])) 24⟩, ⟨gl2, Z2⟩, ⟨g2, .cells (av 8 (w16 (fun _ => 0))) 94⟩] u6 := M
            refine pl_val (want_no rfl) (some 3) rfl (.bool false) (fun _ => by kernel_rfl) ?_
            refine pl_nil ?_
            refine au_then ?_
            refine wp_ret ?_
            refine au_then_ret ?_
            have e0 : (lk6 s).isSome = false := by rw [(show lk6 s = none by unfold lk6; rw [hN1, hN2]; exact if_pos (by simp only [List.length_nil]; omega))]; rfl
            have e1 : ((lk6 s).getD (0, 0)).1 = 0 := by rw [(show lk6 s = none by unfold lk6; rw [hN1, hN2]; exact if_pos (by simp only [List.length_nil]; omega))]; rfl
            have e2 : ((lk6 s).getD (0, 0)).2 = 0 := by rw [(show lk6 s = none by unfold lk6; rw [hN1, hN2]; exact if_pos (by simp only [List.length_nil]; omega))]; rfl
            exact bodyPost_ret (v := .tuple #[.agg (av 3 (ls [.bool false, .int .u64 0, .int .u64 0])), .bool false]) (results_cell_tmp Tryz.results69 _ _ g1 24 (av 3 (ls [.bool false, .int .u64 0, .int .u64 0])) (0, 0) _ _ (by kernel_rfl) (by kernel_rfl) (M.get 0 rfl) Tryz.underlying24 rfl (by rw [av_size]; exact inz24)) (by kernel_rfl) ⟨by rw [e0, e1, e2], below_grown M.old⟩
          · skip
            refine pl_val (want_on 6 false rfl 34 rfl (by kernel_rfl)) (some 40) rfl (.bool false) (fun w => Eq.trans (b := .ok (.value (.bool (decide (8 < (0 + ((l2.length : Nat) : Int)))))) w) (by kernel_rfl) (by rw [decide_eq_false (c4)])) ?_
            refine pl_val (want_no rfl) (some 41) rfl (.bool false) (fun _ => by kernel_rfl) ?_
            refine pl_nil ?_
            refine au_then ?_
            refine wp_cond_false (by kernel_rfl) ?_
            refine wp_skip ?_
            refine au_then ?_
            refine wp_seq ?_
            refine rg_lit ?_
            refine pl_val (want_no rfl) (some 43) rfl (.slice (some ⟨g2, 0, none⟩) 8 8) (fun _ => by kernel_rfl) ?_
            refine pl_val (want_no rfl) (some 44) rfl (.slice none 0 0) (fun _ => by kernel_rfl) ?_
            refine pl_val (want_no rfl) (some 45) rfl (.int .i64 0) (fun _ => by kernel_rfl) ?_
            refine pl_nil ?_
            refine au_then ?_
            refine wp_seq ?_
            refine rg_lit ?_
            refine pl_val (want_no rfl) (some 46) rfl (.slice (some ⟨gl2, 0, none⟩) l2.length cp2) (fun _ => by kernel_rfl) ?_
            refine pl_val (want_no rfl) (some 47) rfl (.int .i64 ((l2.length : Nat) : Int)) (fun _ => by kernel_rfl) ?_
            refine pl_val (want_no rfl) (some 48) rfl (.int .i64 ((8 - l2.length : Nat) : Int)) (fun w => Eq.trans (b := .ok (.value (.int .i64 (cv .i64 (8 - ((l2.length : Nat) : Int))))) w) (by kernel_rfl) (by rw [cv_i64 (by omega) (by omega)]; congr 3; omega)) ?_
            refine pl_val (want_no rfl) (some 49) rfl (.slice (some ⟨g2, (8 - l2.length), none⟩) (8 - (8 - l2.length)) (8 - (8 - l2.length))) (fun w => (run_slAL 94 32 Tryz.underlying94 inz32 _ _ rfl g2 (by kernel_rfl) .i64 (8 - l2.length) (by kernel_rfl) (by omega) w).trans (by rw [show so (8 - l2.length) = 8 - l2.length from if_neg (by have := List.length_pos_iff.2 he2; omega)])) ?_
            refine pl_val (want_no rfl) (some 50) rfl (.slice (some ⟨gl2, 0, none⟩) l2.length cp2) (fun _ => by kernel_rfl) ?_
            refine pl_copyC M (want_no rfl) (some 51) rfl 99 99 3 32 Tryz.underlying99 inz32 2 g2 8 94 (w16 (fun _ => 0)) rfl gl2 (w16 (tgi l2)) (8 - l2.length) (8 - (8 - l2.length)) (8 - (8 - l2.length)) 0 l2.length cp2 l2.length (by show _ = min _ _; omega) (by omega) (fun w M j hj => by rw [Nat.zero_add]; exact hZ2.cell (M.get 1 rfl) (v16_at _ _ hj)) (fun _ => rfl) (w16 (cpl (fun _ => 0) (8 - l2.length) l2)) (fun j _ => cpl_w16 _ _ _ j) (fun _ => by kernel_rfl) ?_
            intro u6 M
            replace M : Mem ⟨w, []⟩ [⟨g1, .cells (av 3 (ls [.bool false, .int .u64 0, .int .u64 0])) 24⟩, ⟨gl2, Z2⟩, ⟨g2, .cells (av 8 (w16 (cpl (fun _ => 0) (8 - l2.length) l2))) 94⟩] u6 := M
            refine pl_nil ?_
            refine au_then ?_
            refine wp_seq ?_
            refine rg_lit ?_
            refine pl_load M (want_no rfl) (some 52) rfl 94 _ rfl 2 g2 0 (by kernel_rfl) 8 94 (w16 (cpl (fun _ => 0) (8 - l2.length) l2)) rfl 8 (w16 (cpl (fun _ => 0) (8 - l2.length) l2)) (fun j _ => by rw [Nat.zero_add]) (by decide) _ Tryz.underlying94 rfl inz94 ?_
            refine pl_call M (want_no rfl) (some 53) rfl 90 #[.agg (av 8 (w16 (cpl (fun _ => 0) (8 - l2.length) l2)))] (.agg (av 3 (ls [.bool true, .int .u64 (adH (cpl (fun _ => 0) (8 - l2.length) l2)), .int .u64 (adL (cpl (fun _ => 0) (8 - l2.length) l2))]))) (fun _ => by kernel_rfl) (fun w M => c_addr (cpl (fun _ => 0) (8 - l2.length) l2) w M.laid) ?_
            intro u7 M
            refine pl_put M (want_no rfl) rfl 24 _ _ rfl 0 g1 0 (by kernel_rfl) 3 24 (ls [.bool false, .int .u64 0, .int .u64 0]) rfl 3 (ls [.bool true, .int .u64 (adH (cpl (fun _ => 0) (8 - l2.length) l2)), .int .u64 (adL (cpl (fun _ => 0) (8 - l2.length) l2))]) (ls [.bool true, .int .u64 (adH (cpl (fun _ => 0) (8 - l2.length) l2)), .int .u64 (adL (cpl (fun _ => 0) (8 - l2.length) l2))]) (by kernel_rfl) inz24 (by decide) (one_ls _ rfl) (fun j hj => by rw [if_pos (by omega), Nat.sub_zero]) ?_
            intro u8 M
            replace M : Mem ⟨w, []⟩ [⟨g1, .cells (av 3 (ls [.bool true, .int .u64 (adH (cpl (fun _ => 0) (8 - l2.length) l2)), .int .u64 (adL (cpl (fun _ => 0) (8 - l2.length) l2))])) 24⟩, ⟨gl2, Z2⟩, ⟨g2, .cells (av 8 (w16 (cpl (fun _ => 0) (8 - l2.length) l2))) 94⟩] u8 := M
            refine pl_val (want_no rfl) (some 3) rfl (.bool true) (fun _ => by kernel_rfl) ?_
            refine pl_nil ?_
            refine au_then ?_
            refine wp_ret ?_
            have e0 : (lk6 s).isSome = true := by rw [(show lk6 s = some (adH (g6 [] l2), adL (g6 [] l2)) by unfold lk6; rw [hN1, hN2]; exact if_neg (by simp only [List.length_nil]; omega))]; rfl
            have e1 : ((lk6 s).getD (0, 0)).1 = (adH (cpl (fun _ => 0) (8 - l2.length) l2)) := by rw [(show lk6 s = some (adH (g6 [] l2), adL (g6 [] l2)) by unfold lk6; rw [hN1, hN2]; exact if_neg (by simp only [List.length_nil]; omega))]; show adH (g6 [] l2) = _; unfold g6; rw [cpl_nil]
            have e2 : ((lk6 s).getD (0, 0)).2 = (adL (cpl (fun _ => 0) (8 - l2.length) l2)) := by rw [(show lk6 s = some (adH (g6 [] l2), adL (g6 [] l2)) by unfold lk6; rw [hN1, hN2]; exact if_neg (by simp only [List.length_nil]; omega))]; show adL (g6 [] l2) = _; unfold g6; rw [cpl_nil]
            exact bodyPost_ret (v := .tuple #[.agg (av 3 (ls [.bool true, .int .u64 (adH (cpl (fun _ => 0) (8 - l2.length) l2)), .int .u64 (adL (cpl (fun _ => 0) (8 - l2.length) l2))])), .bool true]) (results_cell_tmp Tryz.results69 _ _ g1 24 (av 3 (ls [.bool true, .int .u64 (adH (cpl (fun _ => 0) (8 - l2.length) l2)), .int .u64 (adL (cpl (fun _ => 0) (8 - l2.length) l2))])) (0, 0) _ _ (by kernel_rfl) (by kernel_rfl) (M.get 0 rfl) Tryz.underlying24 rfl (by rw [av_size]; exact inz24)) (by kernel_rfl) ⟨by rw [e0, e1, e2], below_grown M.old⟩
    · skip
      refine pl_callL M (want_no rfl) (some 20) rfl 89 #[.string (cuA s ⟨#[58, 58]⟩), .string ⟨#[58]⟩, .int .i64 16, .int .i64 16] (fun g cap => .tuple #[.slice (some ⟨g, 0, none⟩) l1.length cap, .bool true]) (fun cap Z => SB Z cap (v16 l1)) (fun _ => by kernel_rfl) (fun w M => c_nums16L (cuA s ⟨#[58, 58]⟩) ⟨#[58]⟩ (by have := cuA_le s ⟨#[58, 58]⟩; omega) (by decide) l1 he1 hN1 w M.laid) ?_
      intro gl1 cp1 Z1 u3 hZ1 M
      replace M : Mem ⟨w, []⟩ [⟨g1, .cells (av 3 (ls [.bool false, .int .u64 0, .int .u64 0])) 24⟩, ⟨gl1, Z1⟩] u3 := M
      refine pl_val (want_no rfl) (some 18) rfl (.tuple #[.slice (some ⟨gl1, 0, none⟩) l1.length cp1, .bool true]) (fun _ => by kernel_rfl) ?_
      refine pl_val (want_no rfl) (some 21) rfl (.slice (some ⟨gl1, 0, none⟩) l1.length cp1) (fun _ => by kernel_rfl) ?_
      refine pl_val (want_no rfl) (some 22) rfl (.bool true) (fun _ => by kernel_rfl) ?_
      refine pl_val (want_no rfl) (some 7) rfl (.slice (some ⟨gl1, 0, none⟩) l1.length cp1) (fun _ => by kernel_rfl) ?_
      refine pl_val (want_no rfl) (some 8) rfl (.bool true) (fun _ => by kernel_rfl) ?_
      refine pl_nil ?_
      refine au_then ?_
      refine wp_seq ?_
      refine rg_lit ?_
      refine pl_val (want_no rfl) (some 24) rfl (.string (cuB s ⟨#[58, 58]⟩)) (fun _ => by kernel_rfl) ?_
      rcases hN2 : nbs 16 65535 (cuB s ⟨#[58, 58]⟩) ⟨#[58]⟩ with _ | l2
      · skip
        refine pl_call M (want_no rfl) (some 25) rfl 89 #[.string (cuB s ⟨#[58, 58]⟩), .string ⟨#[58]⟩, .int .i64 16, .int .i64 16] (.tuple #[.slice none 0 0, .bool false]) (fun _ => by kernel_rfl) (fun w M => c_nums16N (cuB s ⟨#[58, 58]⟩) ⟨#[58]⟩ (by have := cuB_le s ⟨#[58, 58]⟩; omega) (by decide) hN2 w M.laid) ?_
        intro u4 M
        refine pl_val (want_no rfl) (some 23) rfl (.tuple #[.slice none 0 0, .bool false]) (fun _ => by kernel_rfl) ?_
        refine pl_val (want_no rfl) (some 26) rfl (.slice none 0 0) (fun _ => by kernel_rfl) ?_
        refine pl_val (want_no rfl) (some 27) rfl (.bool false) (fun _ => by kernel_rfl) ?_
        refine pl_val (want_no rfl) (some 9) rfl (.slice none 0 0) (fun _ => by kernel_rfl) ?_
        refine pl_val (want_no rfl) (some 10) rfl (.bool false) (fun _ => by kernel_rfl) ?_
        refine pl_nil ?_
        refine au_then ?_
        refine wp_seq ?_
        refine rg_lit ?_
        refine pl_new M (want_no rfl) (some 11) rfl (.cells (av 8 (w16 (fun _ => 0))) 94) (fun _ => by kernel_rfl) ?_
        intro g2 u5 M
        replace M : Mem ⟨w, []⟩ [⟨g1, .cells (av 3 (ls [.bool false, .int .u64 0, .int .u64 0])) 24⟩, ⟨gl1, Z1⟩, ⟨g2, .cells (av 8 (w16 (fun _ => 0))) 94⟩] u5 := M
        refine pl_nil ?_
        refine au_then ?_
        refine wp_seq ?_
        refine wp_seq ?_
        refine rg_lit ?_
        refine pl_val (want_no rfl) (some 28) rfl (.bool true) (fun _ => by kernel_rfl) ?_
        refine pl_val (want_no rfl) (some 29) rfl (.bool false) (fun _ => by kernel_rfl) ?_
        refine pl_val (want_no rfl) (some 30) rfl (.bool false) (fun _ => by kernel_rfl) ?_
        refine pl_val (want_on 2 false rfl 30 rfl (by kernel_rfl)) (some 31) rfl (.bool false) (fun _ => by kernel_rfl) ?_
        refine pl_val (want_on 2 false rfl 30 rfl (by kernel_rfl)) (some 32) rfl (.bool true) (fun _ => by kernel_rfl) ?_
        refine pl_val (want_no rfl) (some 33) rfl (.bool true) (fun _ => by kernel_rfl) ?_
        refine pl_val (want_no rfl) (some 34) rfl (.bool true) (fun _ => by kernel_rfl) ?_
        refine pl_skip (want_off 6 false rfl 34 rfl (by kernel_rfl)) (some 35) rfl ?_
        refine pl_skip (want_off 6 false rfl 34 rfl (by kernel_rfl)) (some 36) rfl ?_
        refine pl_skip (want_off 6 false rfl 34 rfl (by kernel_rfl)) (some 37) rfl ?_
        refine pl_skip (want_off 6 false rfl 34 rfl (by kernel_rfl)) (some 38) rfl ?_
        refine pl_skip (want_off 6 false rfl 34 rfl (by kernel_rfl)) (some 39) rfl ?_
        refine pl_skip (want_off 6 false rfl 34 rfl (by kernel_rfl)) (some 40) rfl ?_
        refine pl_val (want_no rfl) (some 41) rfl (.bool true) (fun _ => by kernel_rfl) ?_
        refine pl_nil ?_
        refine au_then ?_
        refine wp_cond_true (by kernel_rfl) ?_
        refine wp_seq ?_
        refine rg_lit ?_
        refine pl_val (want_no rfl) (some 42) rfl (.agg (av 3 (ls [.bool false, .int .u64 0, .int .u64 0]))) (fun _ => by kernel_rfl) ?_
        refine pl_put M (want_no rfl) rfl 24 _ _ rfl 0 g1 0 (by kernel_rfl) 3 24 (ls [.bool false, .int .u64 0, .int .u64 0]) rfl 3 (ls [.bool false, .int .u64 0, .int .u64 0]) (ls [.bool false, .int .u64 0, .int .u64 0]) (by kernel_rfl) inz24 (by decide) (one_ls _ rfl) (fun j hj => by rw [if_pos (by omega), Nat.sub_zero]) ?_
        intro u6 M
        replace M : Mem ⟨w, []⟩ [⟨g1, .cells (av 3 (ls [.bool false, .int .u64 0, .int .u64 0])) 24⟩, ⟨gl1, Z1⟩, ⟨g2, .cells (av 8 (w16 (fun _ => 0))) 94⟩] u6 := M
        refine pl_val (want_no rfl) (some 3) rfl (.bool false) (fun _ => by kernel_rfl) ?_
        refine pl_nil ?_
        refine au_then ?_
        refine wp_ret ?_
        refine au_then_ret ?_
        have e0 : (lk6 s).isSome = false := by rw [(show lk6 s = none by unfold lk6; rw [hN1, hN2])]; rfl
        have e1 : ((lk6 s).getD (0, 0)).1 = 0 := by rw [(show lk6 s = none by unfold lk6; rw [hN1, hN2])]; rfl
        have e2 : ((lk6 s).getD (0, 0)).2 = 0 := by rw [(show lk6 s = none by unfold lk6; rw [hN1, hN2])]; rfl
        exact bodyPost_ret (v := .tuple #[.agg (av 3 (ls [.bool false, .int .u64 0, .int .u64 0])), .bool false]) (results_cell_tmp Tryz.results69 _ _ g1 24 (av 3 (ls [.bool false, .int .u64 0, .int .u64 0])) (0, 0) _ _ (by kernel_rfl) (by kernel_rfl) (M.get 0 rfl) Tryz.underlying24 rfl (by rw [av_size]; exact inz24)) (by kernel_rfl) ⟨by rw [e0, e1, e2], below_grown M.old⟩
      · skip
        by_cases he2 : l2 = []
        · skip
          subst he2
          refine pl_call M (want_no rfl) (some 25) rfl 89 #[.string (cuB s ⟨#[58, 58]⟩), .string ⟨#[58]⟩, .int .i64 16, .int .i64 16] (.tuple #[.slice none 0 0, .bool true]) (fun _ => by kernel_rfl) (fun w M => c_nums16E (cuB s ⟨#[58, 58]⟩) ⟨#[58]⟩ (by have := cuB_le s ⟨#[58, 58]⟩; omega) (by decide) hN2 w M.laid) ?_
          intro u4 M
          refine pl_val (want_no rfl) (some 23) rfl (.tuple #[.slice none 0 0, .bool true]) (fun _ => by kernel_rfl) ?_
          refine pl_val (want_no rfl) (some 26) rfl (.slice none 0 0) (fun _ => by kernel_rfl) ?_
          refine pl_val (want_no rfl) (some 27) rfl (.bool true) (fun _ => by kernel_rfl) ?_
          refine pl_val (want_no rfl) (some 9) rfl (.slice none 0 0) (fun _ => by kernel_rfl) ?_
          refine pl_val (want_no rfl) (some 10) rfl (.bool true) (fun _ => by kernel_rfl) ?_
          refine pl_nil ?_
          refine au_then ?_
          refine wp_seq ?_
          refine rg_lit ?_
          refine pl_new M (want_no rfl) (some 11) rfl (.cells (av 8 (w16 (fun _ => 0))) 94) (fun _ => by kernel_rfl) ?_
          intro g2 u5 M
          replace M : Mem ⟨w, []⟩ [⟨g1, .cells (av 3 (ls [.bool false, .int .u64 0, .int .u64 0])) 24⟩, ⟨gl1, Z1⟩, ⟨g2, .cells (av 8 (w16 (fun _ => 0))) 94⟩] u5 := M
          refine pl_nil ?_
          refine au_then ?_
          refine wp_seq ?_
          refine wp_seq ?_
          refine rg_lit ?_
          refine pl_val (want_no rfl) (some 28) rfl (.bool true) (fun _ => by kernel_rfl) ?_
          refine pl_val (want_no rfl) (some 29) rfl (.bool false) (fun _ => by kernel_rfl) ?_
          refine pl_val (want_no rfl) (some 30) rfl (.bool false) (fun _ => by kernel_rfl) ?_
          refine pl_val (want_on 2 false rfl 30 rfl (by kernel_rfl)) (some 31) rfl (.bool true) (fun _ => by kernel_rfl) ?_
          refine pl_val (want_on 2 false rfl 30 rfl (by kernel_rfl)) (some 32) rfl (.bool false) (fun _ => by kernel_rfl) ?_
          refine pl_val (want_no rfl) (some 33) rfl (.bool false) (fun _ => by kernel_rfl) ?_
          refine pl_val (want_no rfl) (some 34) rfl (.bool false) (fun _ => by kernel_rfl) ?_
          refine pl_val (want_on 6 false rfl 34 rfl (by kernel_rfl)) (some 35) rfl (.slice (some ⟨gl1, 0, none⟩) l1.length cp1) (fun _ => by kernel_rfl) ?_
          refine pl_val (want_on 6 false rfl 34 rfl (by kernel_rfl)) (some 36) rfl (.int .i64 ((l1.length : Nat) : Int)) (fun _ => by kernel_rfl) ?_
          refine pl_val (want_on 6 false rfl 34 rfl (by kernel_rfl)) (some 37) rfl (.slice none 0 0) (fun _ => by kernel_rfl) ?_
          refine pl_val (want_on 6 false rfl 34 rfl (by kernel_rfl)) (some 38) rfl (.int .i64 0) (fun _ => by kernel_rfl) ?_
          have hq1 := hl1 l1 hN1
          refine pl_val (want_on 6 false rfl 34 rfl (by kernel_rfl)) (some 39) rfl (.int .i64 (((l1.length : Nat) : Int) + 0)) (fun w => Eq.trans (b := .ok (.value (.int .i64 (cv .i64 (((l1.length : Nat) : Int) + 0)))) w) (by kernel_rfl) (by rw [cv_i64 (by omega) (by omega)])) ?_
          by_cases c4 : 8 < (((l1.length : Nat) : Int) + 0)
          · skip
            refine pl_val (want_on 6 false rfl 34 rfl (by kernel_rfl)) (some 40) rfl (.bool true) (fun w => Eq.trans (b := .ok (.value (.bool (decide (8 < (((l1.length : Nat) : Int) + 0))))) w) (by kernel_rfl) (by rw [decide_eq_true (c4)])) ?_
            refine pl_val (want_no rfl) (some 41) rfl (.bool true) (fun _ => by kernel_rfl) ?_
            refine pl_nil ?_
            refine au_then ?_
            refine wp_cond_true (by kernel_rfl) ?_
            refine wp_seq ?_
            refine rg_lit ?_
            refine pl_val (want_no rfl) (some 42) rfl (.agg (av 3 (ls [.bool false, .int .u64 0, .int .u64 0]))) (fun _ => by kernel_rfl) ?_
            refine pl_put M (want_no rfl) rfl 24 _ _ rfl 0 g1 0 (by kernel_rfl) 3 24 (ls [.bool false, .int .u64 0, .int .u64 0]) rfl 3 (ls [.bool false, .int .u64 0, .int .u64 0]) (ls [.bool false, .int .u64 0, .int .u64 0]) (by kernel_rfl) inz24 (by decide) (one_ls _ rfl) (fun j hj => by rw [if_pos (by omega), Nat.sub_zero]) ?_
            intro u6 M
            replace M : Mem ⟨w, []⟩ [⟨g1, .cells (av 3 (ls [.bool false, .int .u64 0, .int .u64 0])) 24⟩, ⟨gl1, Z1⟩, ⟨g2, .cells (av 8 (w16 (fun _ => 0))) 94⟩] u6 := M
            refine pl_val (want_no rfl) (some 3) rfl (.bool false) (fun _ => by kernel_rfl) ?_
            refine pl_nil ?_
            refine au_then ?_
            refine wp_ret ?_
            refine au_then_ret ?_
            have e0 : (lk6 s).isSome = false := by rw [(show lk6 s = none by unfold lk6; rw [hN1, hN2]; exact if_pos (by simp only [List.length_nil]; omega))]; rfl
            have e1 : ((lk6 s).getD (0, 0)).1 = 0 := by rw [(show lk6 s = none by unfold lk6; rw [hN1, hN2]; exact if_pos (by simp only [List.length_nil]; omega))]; rfl
            have e2 : ((lk6 s).getD (0, 0)).2 = 0 := by rw [(show lk6 s = none by unfold lk6; rw [hN1, hN2]; exact if_pos (by simp only [List.length_nil]; omega))]; rfl
            exact bodyPost_ret (v := .tuple #[.agg (av 3 (ls [.bool false, .int .u64 0, .int .u64 0])), .bool false]) (results_cell_tmp Tryz.results69 _ _ g1 24 (av 3 (ls [.bool false, .int .u64 0, .int .u64 0])) (0, 0) _ _ (by kernel_rfl) (by kernel_rfl) (M.get 0 rfl) Tryz.underlying24 rfl (by rw [av_size]; exact inz24)) (by kernel_rfl) ⟨by rw [e0, e1, e2], below_grown M.old⟩
          · skip
            refine pl_val (want_on 6 false rfl 34 rfl (by kernel_rfl)) (some 40) rfl (.bool false) (fun w => Eq.trans (b := .ok (.value (.bool (decide (8 < (((l1.length : Nat) : Int) + 0))))) w) (by kernel_rfl) (by rw [decide_eq_false (c4)])) ?_
            refine pl_val (want_no rfl) (some 41) rfl (.bool false) (fun _ => by kernel_rfl) ?_
            refine pl_nil ?_
            refine au_then ?_
            refine wp_cond_false (by kernel_rfl) ?_
            refine wp_skip ?_
            refine au_then ?_
            refine wp_seq ?_
            refine rg_lit ?_
            refine pl_val (want_no rfl) (some 43) rfl (.slice (some ⟨g2, 0, none⟩) 8 8) (fun _ => by kernel_rfl) ?_
            refine pl_val (want_no rfl) (some 44) rfl (.slice (some ⟨gl1, 0, none⟩) l1.length cp1) (fun _ => by kernel_rfl) ?_
            refine pl_copyC M (want_no rfl) (some 45) rfl 99 99 3 32 Tryz.underlying99 inz32 2 g2 8 94 (w16 (fun _ => 0)) rfl gl1 (w16 (tgi l1)) 0 8 8 0 l1.length cp1 l1.length (by show _ = min _ _; omega) (by omega) (fun w M j hj => by rw [Nat.zero_add]; exact hZ1.cell (M.get 1 rfl) (v16_at _ _ hj)) (fun _ => rfl) (w16 (cpl (fun _ => 0) 0 l1)) (fun j _ => cpl_w16 _ _ _ j) (fun _ => by kernel_rfl) ?_
            intro u6 M
            replace M : Mem ⟨w, []⟩ [⟨g1, .cells (av 3 (ls [.bool false, .int .u64 0, .int .u64 0])) 24⟩, ⟨gl1, Z1⟩, ⟨g2, .cells (av 8 (w16 (cpl (fun _ => 0) 0 l1))) 94⟩] u6 := M
            refine pl_nil ?_
            refine au_then ?_
            refine wp_seq ?_
            refine rg_lit ?_
            refine pl_val (want_no rfl) (some 46) rfl (.slice none 0 0) (fun _ => by kernel_rfl) ?_
            refine pl_val (want_no rfl) (some 47) rfl (.int .i64 0) (fun _ => by kernel_rfl) ?_
            refine pl_val (want_no rfl) (some 48) rfl (.int .i64 8) (fun _ => by kernel_rfl) ?_
            refine pl_val (want_no rfl) (some 49) rfl (.slice (some ⟨g2, 0, none⟩) 0 0) (run_slAL 94 32 Tryz.underlying94 inz32 _ _ rfl g2 (by kernel_rfl) .i64 8 (by kernel_rfl) (by decide)) ?_
            refine pl_val (want_no rfl) (some 50) rfl (.slice none 0 0) (fun _ => by kernel_rfl) ?_
            refine pl_val (want_no rfl) (some 51) rfl (.int .i64 0) (fun _ => by kernel_rfl) ?_
            refine pl_nil ?_
            refine au_then ?_
            refine wp_seq ?_
            refine rg_lit ?_
            refine pl_load M (want_no rfl) (some 52) rfl 94 _ rfl 2 g2 0 (by kernel_rfl) 8 94 (w16 (cpl (fun _ => 0) 0 l1)) rfl 8 (w16 (cpl (fun _ => 0) 0 l1)) (fun j _ => by rw [Nat.zero_add]) (by decide) _ Tryz.underlying94 rfl inz94 ?_
            refine pl_call M (want_no rfl) (some 53) rfl 90 #[.agg (av 8 (w16 (cpl (fun _ => 0) 0 l1)))] (.agg (av 3 (ls [.bool true, .int .u64 (adH (cpl (fun _ => 0) 0 l1)), .int .u64 (adL (cpl (fun _ => 0) 0 l1))]))) (fun _ => by kernel_rfl) (fun w M => c_addr (cpl (fun _ => 0) 0 l1) w M.laid) ?_
            intro u7 M
            refine pl_put M (want_no rfl) rfl 24 _ _ rfl 0 g1 0 (by kernel_rfl) 3 24 (ls [.bool false, .int .u64 0, .int .u64 0]) rfl 3 (ls [.bool true, .int .u64 (adH (cpl (fun _ => 0) 0 l1)), .int .u64 (adL (cpl (fun _ => 0) 0 l1))]) (ls [.bool true, .int .u64 (adH (cpl (fun _ => 0) 0 l1)), .int .u64 (adL (cpl (fun _ => 0) 0 l1))]) (by kernel_rfl) inz24 (by decide) (one_ls _ rfl) (fun j hj => by rw [if_pos (by omega), Nat.sub_zero]) ?_
            intro u8 M
            replace M : Mem ⟨w, []⟩ [⟨g1, .cells (av 3 (ls [.bool true, .int .u64 (adH (cpl (fun _ => 0) 0 l1)), .int .u64 (adL (cpl (fun _ => 0) 0 l1))])) 24⟩, ⟨gl1, Z1⟩, ⟨g2, .cells (av 8 (w16 (cpl (fun _ => 0) 0 l1))) 94⟩] u8 := M
            refine pl_val (want_no rfl) (some 3) rfl (.bool true) (fun _ => by kernel_rfl) ?_
            refine pl_nil ?_
            refine au_then ?_
            refine wp_ret ?_
            have e0 : (lk6 s).isSome = true := by rw [(show lk6 s = some (adH (g6 l1 []), adL (g6 l1 [])) by unfold lk6; rw [hN1, hN2]; exact if_neg (by simp only [List.length_nil]; omega))]; rfl
            have e1 : ((lk6 s).getD (0, 0)).1 = (adH (cpl (fun _ => 0) 0 l1)) := by rw [(show lk6 s = some (adH (g6 l1 []), adL (g6 l1 [])) by unfold lk6; rw [hN1, hN2]; exact if_neg (by simp only [List.length_nil]; omega))]; show adH (g6 l1 []) = _; unfold g6; rw [cpl_nil]
            have e2 : ((lk6 s).getD (0, 0)).2 = (adL (cpl (fun _ => 0) 0 l1)) := by rw [(show lk6 s = some (adH (g6 l1 []), adL (g6 l1 [])) by unfold lk6; rw [hN1, hN2]; exact if_neg (by simp only [List.length_nil]; omega))]; show adL (g6 l1 []) = _; unfold g6; rw [cpl_nil]
            exact bodyPost_ret (v := .tuple #[.agg (av 3 (ls [.bool true, .int .u64 (adH (cpl (fun _ => 0) 0 l1)), .int .u64 (adL (cpl (fun _ => 0) 0 l1))])), .bool true]) (results_cell_tmp Tryz.results69 _ _ g1 24 (av 3 (ls [.bool true, .int .u64 (adH (cpl (fun _ => 0) 0 l1)), .int .u64 (adL (cpl (fun _ => 0) 0 l1))])) (0, 0) _ _ (by kernel_rfl) (by kernel_rfl) (M.get 0 rfl) Tryz.underlying24 rfl (by rw [av_size]; exact inz24)) (by kernel_rfl) ⟨by rw [e0, e1, e2], below_grown M.old⟩
        · skip
          refine pl_callL M (want_no rfl) (some 25) rfl 89 #[.string (cuB s ⟨#[58, 58]⟩), .string ⟨#[58]⟩, .int .i64 16, .int .i64 16] (fun g cap => .tuple #[.slice (some ⟨g, 0, none⟩) l2.length cap, .bool true]) (fun cap Z => SB Z cap (v16 l2)) (fun _ => by kernel_rfl) (fun w M => c_nums16L (cuB s ⟨#[58, 58]⟩) ⟨#[58]⟩ (by have := cuB_le s ⟨#[58, 58]⟩; omega) (by decide) l2 he2 hN2 w M.laid) ?_
          intro gl2 cp2 Z2 u4 hZ2 M
          replace M : Mem ⟨w, []⟩ [⟨g1, .cells (av 3 (ls [.bool false, .int .u64 0, .int .u64 0])) 24⟩, ⟨gl1, Z1⟩, ⟨gl2, Z2⟩] u4 := M
          refine pl_val (want_no rfl) (some 23) rfl (.tuple #[.slice (some ⟨gl2, 0, none⟩) l2.length cp2, .bool true]) (fun _ => by kernel_rfl) ?_
          refine pl_val (want_no rfl) (some 26) rfl (.slice (some ⟨gl2, 0, none⟩) l2.length cp2) (fun _ => by kernel_rfl) ?_
          refine pl_val (want_no rfl) (some 27) rfl (.bool true) (fun _ => by kernel_rfl) ?_
          refine pl_val (want_no rfl) (some 9) rfl (.slice (some ⟨gl2, 0, none⟩) l2.length cp2) (fun _ => by kernel_rfl) ?_
          refine pl_val (want_no rfl) (some 10) rfl (.bool true) (fun _ => by kernel_rfl) ?_
          refine pl_nil ?_
          refine au_then ?_
          refine wp_seq ?_
          refine rg_lit ?_
          refine pl_new M (want_no rfl) (some 11) rfl (.cells (av 8 (w16 (fun _ => 0))) 94) (fun _ => by kernel_rfl) ?_
          intro g2 u5 M
          replace M : Mem ⟨w, []⟩ [⟨g1, .cells (av 3 (ls [.bool false, .int .u64 0, .int .u64 0])) 24⟩, ⟨gl1, Z1⟩, ⟨gl2, Z2⟩, ⟨g2, .cells (av 8 (w16 (fun _ => 0))) 94⟩] u5 := M
          refine pl_nil ?_
          refine au_then ?_
          refine wp_seq ?_
          refine wp_seq ?_
          refine rg_lit ?_
          refine pl_val (want_no rfl) (some 28) rfl (.bool true) (fun _ => by kernel_rfl) ?_
          refine pl_val (want_no rfl) (some 29) rfl (.bool false) (fun _ => by kernel_rfl) ?_
          refine pl_val (want_no rfl) (some 30) rfl (.bool false) (fun _ => by kernel_rfl) ?_
          refine pl_val (want_on 2 false rfl 30 rfl (by kernel_rfl)) (some 31) rfl (.bool true) (fun _ => by kernel_rfl) ?_
          refine pl_val (want_on 2 false rfl 30 rfl (by kernel_rfl)) (some 32) rfl (.bool false) (fun _ => by kernel_rfl) ?_
          refine pl_val (want_no rfl) (some 33) rfl (.bool false) (fun _ => by kernel_rfl) ?_
          refine pl_val (want_no rfl) (some 34) rfl (.bool false) (fun _ => by kernel_rfl) ?_
          refine pl_val (want_on 6 false rfl 34 rfl (by kernel_rfl)) (some 35) rfl (.slice (some ⟨gl1, 0, none⟩) l1.length cp1) (fun _ => by kernel_rfl) ?_
          refine pl_val (want_on 6 false rfl 34 rfl (by kernel_rfl)) (some 36) rfl (.int .i64 ((l1.length : Nat) : Int)) (fun _ => by kernel_rfl) ?_
          refine pl_val (want_on 6 false rfl 34 rfl (by kernel_rfl)) (some 37) rfl (.slice (some ⟨gl2, 0, none⟩) l2.length cp2) (fun _ => by kernel_rfl) ?_
          refine pl_val (want_on 6 false rfl 34 rfl (by kernel_rfl)) (some 38) rfl (.int .i64 ((l2.length : Nat) : Int)) (fun _ => by kernel_rfl) ?_
          have hq1 := hl1 l1 hN1
          have hq2 := hl2 l2 hN2
          refine pl_val (want_on 6 false rfl 34 rfl (by kernel_rfl)) (some 39) rfl (.int .i64 (((l1.length : Nat) : Int) + ((l2.length : Nat) : Int))) (fun w => Eq.trans (b := .ok (.value (.int .i64 (cv .i64 (((l1.length : Nat) : Int) + ((l2.length : Nat) : Int))))) w) (by kernel_rfl) (by rw [cv_i64 (by omega) (by omega)])) ?_
          by_cases c4 : 8 < (((l1.length : Nat) : Int) + ((l2.length : Nat) : Int))
          · skip
            refine pl_val (want_on 6 false rfl 34 rfl (by kernel_rfl)) (some 40) rfl (.bool true) (fun w => Eq.trans (b := .ok (.value (.bool (decide (8 < (((l1.length : Nat) : Int) + ((l2.length : Nat) : Int)))))) w) (by kernel_rfl) (by rw [decide_eq_true (c4)])) ?_
            refine pl_val (want_no rfl) (some 41) rfl (.bool true) (fun _ => by kernel_rfl) ?_
            refine pl_nil ?_
            refine au_then ?_
            refine wp_cond_true (by kernel_rfl) ?_
            refine wp_seq ?_
            refine rg_lit ?_
            refine pl_val (want_no rfl) (some 42) rfl (.agg (av 3 (ls [.bool false, .int .u64 0, .int .u64 0]))) (fun _ => by kernel_rfl) ?_
            refine pl_put M (want_no rfl) rfl 24 _ _ rfl 0 g1 0 (by kernel_rfl) 3 24 (ls [.bool false, .int .u64 0, .int .u64 0]) rfl 3 (ls [.bool false, .int .u64 0, .int .u64 0]) (ls [.bool false, .int .u64 0, .int .u64 0]) (by kernel_rfl) inz24 (by decide) (one_ls _ rfl) (fun j hj => by rw [if_pos (by omega), Nat.sub_zero]) ?_
            intro u6 M
            replace M : Mem ⟨w, []⟩ [⟨g1, .cells (av 3 (ls [.bool false, .int .u64 0, .int .u64 0])) 24⟩, ⟨gl1, Z1⟩, ⟨gl2, Z2⟩, ⟨g2, .cells (av 8 (w16 (fun _ => 0))) 94⟩] u6 := M
            refine pl_val (want_no rfl) (some 3) rfl (.bool false) (fun _ => by kernel_rfl) ?_
            refine pl_nil ?_
            refine au_then ?_
            refine wp_ret ?_
            refine au_then_ret ?_
            have e0 : (lk6 s).isSome = false := by rw [(show lk6 s = none by unfold lk6; rw [hN1, hN2]; exact if_pos (by omega))]; rfl
            have e1 : ((lk6 s).getD (0, 0)).1 = 0 := by rw [(show lk6 s = none by unfold lk6; rw [hN1, hN2]; exact if_pos (by omega))]; rfl
            have e2 : ((lk6 s).getD (0, 0)).2 = 0 := by rw [(show lk6 s = none by unfold lk6; rw [hN1, hN2]; exact if_pos (by omega))]; rfl
            exact bodyPost_ret (v := .tuple #[.agg (av 3 (ls [.bool false, .int .u64 0, .int .u64 0])), .bool false]) (results_cell_tmp Tryz.results69 _ _ g1 24 (av 3 (ls [.bool false, .int .u64 0, .int .u64 0])) (0, 0) _ _ (by kernel_rfl) (by kernel_rfl) (M.get 0 rfl) Tryz.underlying24 rfl (by rw [av_size]; exact inz24)) (by kernel_rfl) ⟨by rw [e0, e1, e2], below_grown M.old⟩
          · skip
            refine pl_val (want_on 6 false rfl 34 rfl (by kernel_rfl)) (some 40) rfl (.bool false) (fun w => Eq.trans (b := .ok (.value (.bool (decide (8 < (((l1.length : Nat) : Int) + ((l2.length : Nat) : Int)))))) w) (by kernel_rfl) (by rw [decide_eq_false (c4)])) ?_
            refine pl_val (want_no rfl) (some 41) rfl (.bool false) (fun _ => by kernel_rfl) ?_
            refine pl_nil ?_
            refine au_then ?_
            refine wp_cond_false (by kernel_rfl) ?_
            refine wp_skip ?_
            refine au_then ?_
            refine wp_seq ?_
            refine rg_lit ?_
            refine pl_val (want_no rfl) (some 43) rfl (.slice (some ⟨g2, 0, none⟩) 8 8) (fun _ => by kernel_rfl) ?_
            refine pl_val (want_no rfl) (some 44) rfl (.slice (some ⟨gl1, 0, none⟩) l1.length cp1) (fun _ => by kernel_rfl) ?_
            refine pl_copyC M (want_no rfl) (some 45) rfl 99 99 3 32 Tryz.underlying99 inz32 3 g2 8 94 (w16 (fun _ => 0)) rfl gl1 (w16 (tgi l1)) 0 8 8 0 l1.length cp1 l1.length (by show _ = min _ _; omega) (by omega) (fun w M j hj => by rw [Nat.zero_add]; exact hZ1.cell (M.get 1 rfl) (v16_at _ _ hj)) (fun _ => rfl) (w16 (cpl (fun _ => 0) 0 l1)) (fun j _ => cpl_w16 _ _ _ j) (fun _ => by kernel_rfl) ?_
            intro u6 M
            replace M : Mem ⟨w, []⟩ [⟨g1, .cells (av 3 (ls [.bool false, .int .u64 0, .int .u64 0])) 24⟩, ⟨gl1, Z1⟩, ⟨gl2, Z2⟩, ⟨g2, .cells (av 8 (w16 (cpl (fun _ => 0) 0 l1))) 94⟩] u6 := M
            refine pl_nil ?_
            refine au_then ?_
            refine wp_seq ?_
            refine rg_lit ?_
            refine pl_val (want_no rfl) (some 46) rfl (.slice (some ⟨gl2, 0, none⟩) l2.length cp2) (fun _ => by kernel_rfl) ?_
            refine pl_val (want_no rfl) (some 47) rfl (.int .i64 ((l2.length : Nat) : Int)) (fun _ => by kernel_rfl) ?_
            refine pl_val (want_no rfl) (some 48) rfl (.int .i64 ((8 - l2.length : Nat) : Int)) (fun w => Eq.trans (b := .ok (.value (.int .i64 (cv .i64 (8 - ((l2.length : Nat) : Int))))) w) (by kernel_rfl) (by rw [cv_i64 (by omega) (by omega)]; congr 3; omega)) ?_
            refine pl_val (want_no rfl) (some 49) rfl (.slice (some ⟨g2, (8 - l2.length), none⟩) (8 - (8 - l2.length)) (8 - (8 - l2.length))) (fun w => (run_slAL 94 32 Tryz.underlying94 inz32 _ _ rfl g2 (by kernel_rfl) .i64 (8 - l2.length) (by kernel_rfl) (by omega) w).trans (by rw [show so (8 - l2.length) = 8 - l2.length from if_neg (by have := List.length_pos_iff.2 he2; omega)])) ?_
            refine pl_val (want_no rfl) (some 50) rfl (.slice (some ⟨gl2, 0, none⟩) l2.length cp2) (fun _ => by kernel_rfl) ?_
            refine pl_copyC M (want_no rfl) (some 51) rfl 99 99 3 32 Tryz.underlying99 inz32 3 g2 8 94 (w16 (cpl (fun _ => 0) 0 l1)) rfl gl2 (w16 (tgi l2)) (8 - l2.length) (8 - (8 - l2.length)) (8 - (8 - l2.length)) 0 l2.length cp2 l2.length (by show _ = min _ _; omega) (by omega) (fun w M j hj => by rw [Nat.zero_add]; exact hZ2.cell (M.get 2 rfl) (v16_at _ _ hj)) (fun _ => rfl) (w16 (cpl (cpl (fun _ => 0) 0 l1) (8 - l2.length) l2)) (fun j _ => cpl_w16 _ _ _ j) (fun _ => by kernel_rfl) ?_
            intro u7 M
            replace M : Mem ⟨w, []⟩ [⟨g1, .cells (av 3 (ls [.bool false, .int .u64 0, .int .u64 0])) 24⟩, ⟨gl1, Z1⟩, ⟨gl2, Z2⟩, ⟨g2, .cells (av 8 (w16 (cpl (cpl (fun _ => 0) 0 l1) (8 - l2.length) l2))) 94⟩] u7 := M
            refine pl_nil ?_
            refine au_then ?_
            refine wp_seq ?_
            refine rg_lit ?_
            refine pl_load M (want_no rfl) (some 52) rfl 94 _ rfl 3 g2 0 (by kernel_rfl) 8 94 (w16 (cpl (cpl (fun _ => 0) 0 l1) (8 - l2.length) l2)) rfl 8 (w16 (cpl (cpl (fun _ => 0) 0 l1) (8 - l2.length) l2)) (fun j _ => by rw [Nat.zero_add]) (by decide) _ Tryz.underlying94 rfl inz94 ?_
            refine pl_call M (want_no rfl) (some 53) rfl 90 #[.agg (av 8 (w16 (cpl (cpl (fun _ => 0) 0 l1) (8 - l2.length) l2)))] (.agg (av 3 (ls [.bool true, .int .u64 (adH (cpl (cpl (fun _ => 0) 0 l1) (8 - l2.length) l2)), .int .u64 (adL (cpl (cpl (fun _ => 0) 0 l1) (8 - l2.length) l2))]))) (fun _ => by kernel_rfl) (fun w M => c_addr (cpl (cpl (fun _ => 0) 0 l1) (8 - l2.length) l2) w M.laid) ?_
            intro u8 M
            refine pl_put M (want_no rfl) rfl 24 _ _ rfl 0 g1 0 (by kernel_rfl) 3 24 (ls [.bool false, .int .u64 0, .int .u64 0]) rfl 3 (ls [.bool true, .int .u64 (adH (cpl (cpl (fun _ => 0) 0 l1) (8 - l2.length) l2)), .int .u64 (adL (cpl (cpl (fun _ => 0) 0 l1) (8 - l2.length) l2))]) (ls [.bool true, .int .u64 (adH (cpl (cpl (fun _ => 0) 0 l1) (8 - l2.length) l2)), .int .u64 (adL (cpl (cpl (fun _ => 0) 0 l1) (8 - l2.length) l2))]) (by kernel_rfl) inz24 (by decide) (one_ls _ rfl) (fun j hj => by rw [if_pos (by omega), Nat.sub_zero]) ?_
            intro u9 M
            replace M : Mem ⟨w, []⟩ [⟨g1, .cells (av 3 (ls [.bool true, .int .u64 (adH (cpl (cpl (fun _ => 0) 0 l1) (8 - l2.length) l2)), .int .u64 (adL (cpl (cpl (fun _ => 0) 0 l1) (8 - l2.length) l2))])) 24⟩, ⟨gl1, Z1⟩, ⟨gl2, Z2⟩, ⟨g2, .cells (av 8 (w16 (cpl (cpl (fun _ => 0) 0 l1) (8 - l2.length) l2))) 94⟩] u9 := M
            refine pl_val (want_no rfl) (some 3) rfl (.bool true) (fun _ => by kernel_rfl) ?_
            refine pl_nil ?_
            refine au_then ?_
            refine wp_ret ?_
            have e0 : (lk6 s).isSome = true := by rw [(show lk6 s = some (adH (g6 l1 l2), adL (g6 l1 l2)) by unfold lk6; rw [hN1, hN2]; exact if_neg (by omega))]; rfl
            have e1 : ((lk6 s).getD (0, 0)).1 = (adH (cpl (cpl (fun _ => 0) 0 l1) (8 - l2.length) l2)) := by rw [(show lk6 s = some (adH (g6 l1 l2), adL (g6 l1 l2)) by unfold lk6; rw [hN1, hN2]; exact if_neg (by omega))]; show adH (g6 l1 l2) = _; unfold g6; rfl
            have e2 : ((lk6 s).getD (0, 0)).2 = (adL (cpl (cpl (fun _ => 0) 0 l1) (8 - l2.length) l2)) := by rw [(show lk6 s = some (adH (g6 l1 l2), adL (g6 l1 l2)) by unfold lk6; rw [hN1, hN2]; exact if_neg (by omega))]; show adL (g6 l1 l2) = _; unfold g6; rfl
            exact bodyPost_ret (v := .tuple #[.agg (av 3 (ls [.bool true, .int .u64 (adH (cpl (cpl (fun _ => 0) 0 l1) (8 - l2.length) l2)), .int .u64 (adL (cpl (cpl (fun _ => 0) 0 l1) (8 - l2.length) l2))])), .bool true]) (results_cell_tmp Tryz.results69 _ _ g1 24 (av 3 (ls [.bool true, .int .u64 (adH (cpl (cpl (fun _ => 0) 0 l1) (8 - l2.length) l2)), .int .u64 (adL (cpl (cpl (fun _ => 0) 0 l1) (8 - l2.length) l2))])) (0, 0) _ _ (by kernel_rfl) (by kernel_rfl) (M.get 0 rfl) Tryz.underlying24 rfl (by rw [av_size]; exact inz24)) (by kernel_rfl) ⟨by rw [e0, e1, e2], below_grown M.old⟩


end Go.Proofs.YtndonmdgplojnaaGreatDoor

/- Texts that are read: likely, Read, ReadPrefix. -/
namespace Go.Proofs.YtndonmdgplojnaaGreatDoor
open Go.RowKit

def lV (s : ByteArray) : Bool := if (39 : Int) < (s.size : Int) then false else if ctn s ⟨#[58]⟩ = true then (lk6 s).isSome else false
def lH (s : ByteArray) : Int := if (39 : Int) < (s.size : Int) then 0 else if ctn s ⟨#[58]⟩ = true then ((lk6 s).getD (0, 0)).1 else 0
def lL (s : ByteArray) : Int := if (39 : Int) < (s.size : Int) then 0 else if ctn s ⟨#[58]⟩ = true then ((lk6 s).getD (0, 0)).2 else (lk4 s).getD 0
def lI (s : ByteArray) : Bool := if (39 : Int) < (s.size : Int) then false else if ctn s ⟨#[58]⟩ = true then (lk6 s).isSome else (lk4 s).isSome
def rdE (s : ByteArray) : Int := if lI s = true then (if txt (lV s) (lH s) (lL s) = s then 0 else 8) else 8
set_option maxRecDepth 100000 in
set_option maxHeartbeats 4000000 in
set_option linter.unusedSimpArgs false in
theorem c_likely (s : ByteArray) (w : World) (hL : Laid w)  :
    Calls Tryz.prog 44 #[.string s] w fun r w' => r = .returned (.tuple #[.agg (av 3 (ls [.bool (lV s), .int .u64 (lH s), .int .u64 (lL s)])), .bool ((lI s))]) ∧ Below w.heap.size w w' := by
  go_enter Tryz.func44, Tryz.ntmps44
  have M := Mem.start hL
  refine wp_seq ?_
  refine rg_lit ?_
  refine pl_new M (want_no rfl) (some 2) rfl (.cells (av 3 (ls [.bool false, .int .u64 0, .int .u64 0])) 24) (fun _ => by kernel_rfl) ?_
  intro g1 u1 M
  replace M : Mem ⟨w, []⟩ [⟨g1, .cells (av 3 (ls [.bool false, .int .u64 0, .int .u64 0])) 24⟩] u1 := M
  refine pl_val (want_no rfl) (some 3) rfl (.bool false) (fun _ => by kernel_rfl) ?_
  refine pl_nil ?_
  refine au_then ?_
  refine wp_seq ?_
  refine wp_block ?_
  refine wp_seq ?_
  refine rg_lit ?_
  refine pl_val (want_no rfl) (some 5) rfl (.string s) (fun _ => by kernel_rfl) ?_
  refine pl_val (want_no rfl) (some 6) rfl (.int .i64 (s.size : Int)) (fun _ => by kernel_rfl) ?_
  by_cases c0 : 39 < (s.size : Int)
  · skip
    refine pl_val (want_no rfl) (some 7) rfl (.bool true) (fun w => Eq.trans (b := .ok (.value (.bool (decide (39 < (s.size : Int))))) w) (by kernel_rfl) (by rw [decide_eq_true (c0)])) ?_
    refine pl_val (want_no rfl) (some 4) rfl (.bool true) (fun _ => by kernel_rfl) ?_
    refine pl_nil ?_
    refine au_then ?_
    refine wp_cond_true (by kernel_rfl) ?_
    refine wp_seq ?_
    refine rg_lit ?_
    refine pl_val (want_no rfl) (some 8) rfl (.agg (av 3 (ls [.bool false, .int .u64 0, .int .u64 0]))) (fun _ => by kernel_rfl) ?_
    refine pl_put M (want_no rfl) rfl 24 _ _ rfl 0 g1 0 (by kernel_rfl) 3 24 (ls [.bool false, .int .u64 0, .int .u64 0]) rfl 3 (ls [.bool false, .int .u64 0, .int .u64 0]) (ls [.bool false, .int .u64 0, .int .u64 0]) (by kernel_rfl) inz24 (by decide) (one_ls _ rfl) (fun j hj => by rw [if_pos (by omega), Nat.sub_zero]) ?_
    intro u2 M
    replace M : Mem ⟨w, []⟩ [⟨g1, .cells (av 3 (ls [.bool false, .int .u64 0, .int .u64 0])) 24⟩] u2 := M
    refine pl_val (want_no rfl) (some 3) rfl (.bool false) (fun _ => by kernel_rfl) ?_
    refine pl_nil ?_
    refine au_then ?_
    refine wp_ret ?_
    refine au_block_ret ?_
    refine au_then_ret ?_
    have e0 : lV s = false := by unfold lV; rw [if_pos c0]
    have e1 : (lH s) = 0 := by unfold lH; rw [if_pos c0]
    have e2 : (lL s) = 0 := by unfold lL; rw [if_pos c0]
    have e3 : (lI s) = false := by unfold lI; rw [if_pos c0]
    exact bodyPost_ret (v := .tuple #[.agg (av 3 (ls [.bool false, .int .u64 0, .int .u64 0])), .bool false]) (results_cell_tmp Tryz.results44 _ _ g1 24 (av 3 (ls [.bool false, .int .u64 0, .int .u64 0])) (0, 0) _ _ (by kernel_rfl) (by kernel_rfl) (M.get 0 rfl) Tryz.underlying24 rfl (by rw [av_size]; exact inz24)) (by kernel_rfl) ⟨by rw [e0, e1, e2, e3], below_grown M.old⟩
  · skip
    refine pl_val (want_no rfl) (some 7) rfl (.bool false) (fun w => Eq.trans (b := .ok (.value (.bool (decide (39 < (s.size : Int))))) w) (by kernel_rfl) (by rw [decide_eq_false (c0)])) ?_
    refine pl_val (want_no rfl) (some 4) rfl (.bool false) (fun _ => by kernel_rfl) ?_
    refine pl_nil ?_
    refine au_then ?_
    refine wp_cond_false (by kernel_rfl) ?_
    refine wp_seq ?_
    refine rg_lit ?_
    refine pl_val (want_no rfl) (some 10) rfl (.string s) (fun _ => by kernel_rfl) ?_
    rcases Bool.eq_false_or_eq_true (ctn s ⟨#[58]⟩) with c1 | c1
    · skip
      refine pl_call M (want_no rfl) (some 11) rfl 68 #[.string s, .string ⟨#[58]⟩] (.bool true) (fun _ => by kernel_rfl) (fun w M => call_val (c_Contains s ⟨#[58]⟩ (by omega) w M.laid) (congrArg Value.bool c1)) ?_
      intro u2 M
      refine pl_val (want_no rfl) (some 9) rfl (.bool true) (fun _ => by kernel_rfl) ?_
      refine pl_nil ?_
      refine au_then ?_
      refine wp_cond_true (by kernel_rfl) ?_
      refine wp_seq ?_
      refine rg_lit ?_
      refine pl_val (want_no rfl) (some 12) rfl (.string s) (fun _ => by kernel_rfl) ?_
      refine pl_call M (want_no rfl) (some 13) rfl 69 #[.string s] (.tuple #[.agg (av 3 (ls [.bool ((lk6 s).isSome), .int .u64 ((lk6 s).getD (0, 0)).1, .int .u64 ((lk6 s).getD (0, 0)).2])), .bool (lk6 s).isSome]) (fun _ => by kernel_rfl) (fun w M => c_likely6 s (by omega) w M.laid) ?_
      intro u3 M
      refine pl_val (want_no rfl) (some 14) rfl (.agg (av 3 (ls [.bool ((lk6 s).isSome), .int .u64 ((lk6 s).getD (0, 0)).1, .int .u64 ((lk6 s).getD (0, 0)).2]))) (fun _ => by kernel_rfl) ?_
      refine pl_val (want_no rfl) (some 15) rfl (.bool (lk6 s).isSome) (fun _ => by kernel_rfl) ?_
      refine pl_put M (want_no rfl) rfl 24 _ _ rfl 0 g1 0 (by kernel_rfl) 3 24 (ls [.bool false, .int .u64 0, .int .u64 0]) rfl 3 (ls [.bool ((lk6 s).isSome), .int .u64 ((lk6 s).getD (0, 0)).1, .int .u64 ((lk6 s).getD (0, 0)).2]) (ls [.bool ((lk6 s).isSome), .int .u64 ((lk6 s).getD (0, 0)).1, .int .u64 ((lk6 s).getD (0, 0)).2]) (by kernel_rfl) inz24 (by decide) (one_ls _ rfl) (fun j hj => by rw [if_pos (by omega), Nat.sub_zero]) ?_
      intro u4 M
      replace M : Mem ⟨w, []⟩ [⟨g1, .cells (av 3 (ls [.bool ((lk6 s).isSome), .int .u64 ((lk6 s).getD (0, 0)).1, .int .u64 ((lk6 s).getD (0, 0)).2])) 24⟩] u4 := M
      refine pl_val (want_no rfl) (some 3) rfl (.bool (lk6 s).isSome) (fun _ => by kernel_rfl) ?_
      refine pl_nil ?_
      refine au_then ?_
      refine wp_ret ?_
      refine au_block_ret ?_
      refine au_then_ret ?_
      have e0 : lV s = (lk6 s).isSome := by unfold lV; rw [if_neg c0, if_pos c1]
      have e1 : (lH s) = ((lk6 s).getD (0, 0)).1 := by unfold lH; rw [if_neg c0, if_pos c1]
      have e2 : (lL s) = ((lk6 s).getD (0, 0)).2 := by unfold lL; rw [if_neg c0, if_pos c1]
      have e3 : (lI s) = (lk6 s).isSome := by unfold lI; rw [if_neg c0, if_pos c1]
      exact bodyPost_ret (v := .tuple #[.agg (av 3 (ls [.bool ((lk6 s).isSome), .int .u64 ((lk6 s).getD (0, 0)).1, .int .u64 ((lk6 s).getD (0, 0)).2])), .bool (lk6 s).isSome]) (results_cell_tmp Tryz.results44 _ _ g1 24 (av 3 (ls [.bool ((lk6 s).isSome), .int .u64 ((lk6 s).getD (0, 0)).1, .int .u64 ((lk6 s).getD (0, 0)).2])) (0, 0) _ _ (by kernel_rfl) (by kernel_rfl) (M.get 0 rfl) Tryz.underlying24 rfl (by rw [av_size]; exact inz24)) (by kernel_rfl) ⟨by rw [e0, e1, e2, e3], below_grown M.old⟩
    · skip
      refine pl_call M (want_no rfl) (some 11) rfl 68 #[.string s, .string ⟨#[58]⟩] (.bool false) (fun _ => by kernel_rfl) (fun w M => call_val (c_Contains s ⟨#[58]⟩ (by omega) w M.laid) (congrArg Value.bool c1)) ?_
      intro u2 M
      refine pl_val (want_no rfl) (some 9) rfl (.bool false) (fun _ => by kernel_rfl) ?_
      refine pl_nil ?_
      refine au_then ?_
      refine wp_cond_false (by kernel_rfl) ?_
      refine wp_skip ?_
      refine au_block ?_
      refine au_then ?_
      refine wp_seq ?_
      refine rg_lit ?_
      refine pl_val (want_no rfl) (some 16) rfl (.string s) (fun _ => by kernel_rfl) ?_
      refine pl_call M (want_no rfl) (some 17) rfl 70 #[.string s] (.tuple #[.agg (av 3 (ls [.bool false, .int .u64 0, .int .u64 ((lk4 s).getD 0)])), .bool (lk4 s).isSome]) (fun _ => by kernel_rfl) (fun w M => c_likely4 s (by omega) w M.laid) ?_
      intro u3 M
      refine pl_val (want_no rfl) (some 18) rfl (.agg (av 3 (ls [.bool false, .int .u64 0, .int .u64 ((lk4 s).getD 0)]))) (fun _ => by kernel_rfl) ?_
      refine pl_val (want_no rfl) (some 19) rfl (.bool (lk4 s).isSome) (fun _ => by kernel_rfl) ?_
      refine pl_put M (want_no rfl) rfl 24 _ _ rfl 0 g1 0 (by kernel_rfl) 3 24 (ls [.bool false, .int .u64 0, .int .u64 0]) rfl 3 (ls [.bool false, .int .u64 0, .int .u64 ((lk4 s).getD 0)]) (ls [.bool false, .int .u64 0, .int .u64 ((lk4 s).getD 0)]) (by kernel_rfl) inz24 (by decide) (one_ls _ rfl) (fun j hj => by rw [if_pos (by omega), Nat.sub_zero]) ?_
      intro u4 M
      replace M : Mem ⟨w, []⟩ [⟨g1, .cells (av 3 (ls [.bool false, .int .u64 0, .int .u64 ((lk4 s).getD 0)])) 24⟩] u4 := M
      refine pl_val (want_no rfl) (some 3) rfl (.bool (lk4 s).isSome) (fun _ => by kernel_rfl) ?_
      refine pl_nil ?_
      refine au_then ?_
      refine wp_ret ?_
      have e0 : lV s = false := by unfold lV; rw [if_neg c0, if_neg (by rw [c1]; decide)]
      have e1 : (lH s) = 0 := by unfold lH; rw [if_neg c0, if_neg (by rw [c1]; decide)]
      have e2 : (lL s) = ((lk4 s).getD 0) := by unfold lL; rw [if_neg c0, if_neg (by rw [c1]; decide)]
      have e3 : (lI s) = (lk4 s).isSome := by unfold lI; rw [if_neg c0, if_neg (by rw [c1]; decide)]
      exact bodyPost_ret (v := .tuple #[.agg (av 3 (ls [.bool false, .int .u64 0, .int .u64 ((lk4 s).getD 0)])), .bool (lk4 s).isSome]) (results_cell_tmp Tryz.results44 _ _ g1 24 (av 3 (ls [.bool false, .int .u64 0, .int .u64 ((lk4 s).getD 0)])) (0, 0) _ _ (by kernel_rfl) (by kernel_rfl) (M.get 0 rfl) Tryz.underlying24 rfl (by rw [av_size]; exact inz24)) (by kernel_rfl) ⟨by rw [e0, e1, e2, e3], below_grown M.old⟩

set_option maxRecDepth 100000 in
set_option maxHeartbeats 4000000 in
set_option linter.unusedSimpArgs false in
theorem c_Read (s : ByteArray) (w : World) (hL : Laid w)  :
    Calls Tryz.prog 18 #[.string s] w fun r w' => r = .returned (.tuple #[.agg (av 3 (ls [.bool (zB (rdE s) (lV s)), .int .u64 (zI (rdE s) (lH s)), .int .u64 (zI (rdE s) (lL s))])), .int .i64 (rdE s)]) ∧ Below w.heap.size w w' := by
  go_enter Tryz.func18, Tryz.ntmps18
  have M := Mem.start hL
  refine wp_seq ?_
  refine rg_lit ?_
  refine pl_new M (want_no rfl) (some 2) rfl (.cells (av 3 (ls [.bool false, .int .u64 0, .int .u64 0])) 24) (fun _ => by kernel_rfl) ?_
  intro g1 u1 M
  replace M : Mem ⟨w, []⟩ [⟨g1, .cells (av 3 (ls [.bool false, .int .u64 0, .int .u64 0])) 24⟩] u1 := M
  refine pl_val (want_no rfl) (some 3) rfl (.int .i64 0) (fun _ => by kernel_rfl) ?_
  refine pl_nil ?_
  refine au_then ?_
  refine wp_seq ?_
  refine wp_seq ?_
  refine rg_lit ?_
  refine pl_val (want_no rfl) (some 7) rfl (.string s) (fun _ => by kernel_rfl) ?_
  rcases Bool.eq_false_or_eq_true (lI s) with c0 | c0
  · skip
    refine pl_call M (want_no rfl) (some 8) rfl 44 #[.string s] (.tuple #[.agg (av 3 (ls [.bool (lV s), .int .u64 (lH s), .int .u64 (lL s)])), .bool true]) (fun _ => by kernel_rfl) (fun w M => call_val (c_likely s w M.laid) (by rw [c0])) ?_
    intro u2 M
    refine pl_val (want_no rfl) (some 6) rfl (.tuple #[.agg (av 3 (ls [.bool (lV s), .int .u64 (lH s), .int .u64 (lL s)])), .bool true]) (fun _ => by kernel_rfl) ?_
    refine pl_val (want_no rfl) (some 9) rfl (.agg (av 3 (ls [.bool (lV s), .int .u64 (lH s), .int .u64 (lL s)]))) (fun _ => by kernel_rfl) ?_
    refine pl_val (want_no rfl) (some 10) rfl (.bool true) (fun _ => by kernel_rfl) ?_
    refine pl_new M (want_no rfl) (some 4) rfl (.cells (av 3 (ls [.bool false, .int .u64 0, .int .u64 0])) 24) (fun _ => by kernel_rfl) ?_
    intro g2 u3 M
    replace M : Mem ⟨w, []⟩ [⟨g1, .cells (av 3 (ls [.bool false, .int .u64 0, .int .u64 0])) 24⟩, ⟨g2, .cells (av 3 (ls [.bool false, .int .u64 0, .int .u64 0])) 24⟩] u3 := M
    refine pl_put M (want_no rfl) rfl 24 _ _ rfl 1 g2 0 (by kernel_rfl) 3 24 (ls [.bool false, .int .u64 0, .int .u64 0]) rfl 3 (ls [.bool (lV s), .int .u64 (lH s), .int .u64 (lL s)]) (ls [.bool (lV s), .int .u64 (lH s), .int .u64 (lL s)]) (by kernel_rfl) inz24 (by decide) (one_ls _ rfl) (fun j hj => by rw [if_pos (by omega), Nat.sub_zero]) ?_
    intro u4 M
    replace M : Mem ⟨w, []⟩ [⟨g1, .cells (av 3 (ls [.bool false, .int .u64 0, .int .u64 0])) 24⟩, ⟨g2, .cells (av 3 (ls [.bool (lV s), .int .u64 (lH s), .int .u64 (lL s)])) 24⟩] u4 := M
    refine pl_val (want_no rfl) (some 5) rfl (.bool true) (fun _ => by kernel_rfl) ?_
    refine pl_nil ?_
    refine au_then ?_
    refine wp_seq ?_
    refine rg_lit ?_
    refine pl_val (want_no rfl) (some 11) rfl (.bool true) (fun _ => by kernel_rfl) ?_
    refine pl_val (want_no rfl) (some 12) rfl (.bool true) (fun _ => by kernel_rfl) ?_
    refine pl_load M (want_on 1 true rfl 12 rfl (by kernel_rfl)) (some 13) rfl 24 _ rfl 1 g2 0 (by kernel_rfl) 3 24 (ls [.bool (lV s), .int .u64 (lH s), .int .u64 (lL s)]) rfl 3 (ls [.bool (lV s), .int .u64 (lH s), .int .u64 (lL s)]) (fun j _ => by rw [Nat.zero_add]) (by decide) _ Tryz.underlying24 rfl inz24 ?_
    refine pl_call M (want_on 1 true rfl 12 rfl (by kernel_rfl)) (some 14) rfl 22 #[.agg (av 3 (ls [.bool (lV s), .int .u64 (lH s), .int .u64 (lL s)]))] (.string (txt (lV s) (lH s) (lL s))) (fun _ => by kernel_rfl) (fun w M => c_Text (lV s) (lH s) (lL s) w M.laid) ?_
    intro u5 M
    refine pl_val (want_on 1 true rfl 12 rfl (by kernel_rfl)) (some 15) rfl (.string s) (fun _ => by kernel_rfl) ?_
    by_cases c1 : (txt (lV s) (lH s) (lL s)) = s
    · skip
      refine pl_val (want_on 1 true rfl 12 rfl (by kernel_rfl)) (some 16) rfl (.bool true) (fun w => Eq.trans (b := .ok (.value (.bool ((txt (lV s) (lH s) (lL s)).toList == s.toList))) w) (by kernel_rfl) (by rw [seq_pos c1])) ?_
      refine pl_val (want_no rfl) (some 17) rfl (.bool true) (fun _ => by kernel_rfl) ?_
      refine pl_nil ?_
      refine au_then ?_
      refine wp_cond_true (by kernel_rfl) ?_
      refine wp_seq ?_
      refine rg_lit ?_
      refine pl_load M (want_no rfl) (some 18) rfl 24 _ rfl 1 g2 0 (by kernel_rfl) 3 24 (ls [.bool (lV s), .int .u64 (lH s), .int .u64 (lL s)]) rfl 3 (ls [.bool (lV s), .int .u64 (lH s), .int .u64 (lL s)]) (fun j _ => by rw [Nat.zero_add]) (by decide) _ Tryz.underlying24 rfl inz24 ?_
      refine pl_put M (want_no rfl) rfl 24 _ _ rfl 0 g1 0 (by kernel_rfl) 3 24 (ls [.bool false, .int .u64 0, .int .u64 0]) rfl 3 (ls [.bool (lV s), .int .u64 (lH s), .int .u64 (lL s)]) (ls [.bool (lV s), .int .u64 (lH s), .int .u64 (lL s)]) (by kernel_rfl) inz24 (by decide) (one_ls _ rfl) (fun j hj => by rw [if_pos (by omega), Nat.sub_zero]) ?_
      intro u6 M
      replace M : Mem ⟨w, []⟩ [⟨g1, .cells (av 3 (ls [.bool (lV s), .int .u64 (lH s), .int .u64 (lL s)])) 24⟩, ⟨g2, .cells (av 3 (ls [.bool (lV s), .int .u64 (lH s), .int .u64 (lL s)])) 24⟩] u6 := M
      refine pl_val (want_no rfl) (some 3) rfl (.int .i64 0) (fun _ => by kernel_rfl) ?_
      refine pl_nil ?_
      refine au_then ?_
      refine wp_ret ?_
      refine au_then_ret ?_
      have e0 : zB (rdE s) (lV s) = lV s := by rw [(show rdE s = 0 by unfold rdE; rw [if_pos c0, if_pos c1])]; rfl
      have e1 : (zI (rdE s) (lH s)) = (lH s) := by rw [(show rdE s = 0 by unfold rdE; rw [if_pos c0, if_pos c1])]; rfl
      have e2 : (zI (rdE s) (lL s)) = (lL s) := by rw [(show rdE s = 0 by unfold rdE; rw [if_pos c0, if_pos c1])]; rfl
      have e3 : (rdE s) = 0 := (show rdE s = 0 by unfold rdE; rw [if_pos c0, if_pos c1])
      exact bodyPost_ret (v := .tuple #[.agg (av 3 (ls [.bool (lV s), .int .u64 (lH s), .int .u64 (lL s)])), .int .i64 0]) (results_cell_tmp Tryz.results18 _ _ g1 24 (av 3 (ls [.bool (lV s), .int .u64 (lH s), .int .u64 (lL s)])) (0, 0) _ _ (by kernel_rfl) (by kernel_rfl) (M.get 0 rfl) Tryz.underlying24 rfl (by rw [av_size]; exact inz24)) (by kernel_rfl) ⟨by rw [e0, e1, e2, e3], below_grown M.old⟩
    · skip
      refine pl_val (want_on 1 true rfl 12 rfl (by kernel_rfl)) (some 16) rfl (.bool false) (fun w => Eq.trans (b := .ok (.value (.bool ((txt (lV s) (lH s) (lL s)).toList == s.toList))) w) (by kernel_rfl) (by rw [seq_neg c1])) ?_
      refine pl_val (want_no rfl) (some 17) rfl (.bool false) (fun _ => by kernel_rfl) ?_
      refine pl_nil ?_
      refine au_then ?_
      refine wp_cond_false (by kernel_rfl) ?_
      refine wp_skip ?_
      refine au_then ?_
      refine wp_seq ?_
      refine rg_lit ?_
      refine pl_val (want_no rfl) (some 19) rfl (.agg (av 3 (ls [.bool false, .int .u64 0, .int .u64 0]))) (fun _ => by kernel_rfl) ?_
      refine pl_put M (want_no rfl) rfl 24 _ _ rfl 0 g1 0 (by kernel_rfl) 3 24 (ls [.bool false, .int .u64 0, .int .u64 0]) rfl 3 (ls [.bool false, .int .u64 0, .int .u64 0]) (ls [.bool false, .int .u64 0, .int .u64 0]) (by kernel_rfl) inz24 (by decide) (one_ls _ rfl) (fun j hj => by rw [if_pos (by omega), Nat.sub_zero]) ?_
      intro u6 M
      replace M : Mem ⟨w, []⟩ [⟨g1, .cells (av 3 (ls [.bool false, .int .u64 0, .int .u64 0])) 24⟩, ⟨g2, .cells (av 3 (ls [.bool (lV s), .int .u64 (lH s), .int .u64 (lL s)])) 24⟩] u6 := M
      refine pl_val (want_no rfl) (some 3) rfl (.int .i64 8) (fun _ => by kernel_rfl) ?_
      refine pl_nil ?_
      refine au_then ?_
      refine wp_ret ?_
      have e0 : zB (rdE s) (lV s) = false := by rw [(show rdE s = 8 by unfold rdE; rw [if_pos c0, if_neg c1])]; rfl
      have e1 : (zI (rdE s) (lH s)) = 0 := by rw [(show rdE s = 8 by unfold rdE; rw [if_pos c0, if_neg c1])]; rfl
      have e2 : (zI (rdE s) (lL s)) = 0 := by rw [(show rdE s = 8 by unfold rdE; rw [if_pos c0, if_neg c1])]; rfl
      have e3 : (rdE s) = 8 := (show rdE s = 8 by unfold rdE; rw [if_pos c0, if_neg c1])
      exact bodyPost_ret (v := .tuple #[.agg (av 3 (ls [.bool false, .int .u64 0, .int .u64 0])), .int .i64 8]) (results_cell_tmp Tryz.results18 _ _ g1 24 (av 3 (ls [.bool false, .int .u64 0, .int .u64 0])) (0, 0) _ _ (by kernel_rfl) (by kernel_rfl) (M.get 0 rfl) Tryz.underlying24 rfl (by rw [av_size]; exact inz24)) (by kernel_rfl) ⟨by rw [e0, e1, e2, e3], below_grown M.old⟩
  · skip
    refine pl_call M (want_no rfl) (some 8) rfl 44 #[.string s] (.tuple #[.agg (av 3 (ls [.bool (lV s), .int .u64 (lH s), .int .u64 (lL s)])), .bool false]) (fun _ => by kernel_rfl) (fun w M => call_val (c_likely s w M.laid) (by rw [c0])) ?_
    intro u2 M
    refine pl_val (want_no rfl) (some 6) rfl (.tuple #[.agg (av 3 (ls [.bool (lV s), .int .u64 (lH s), .int .u64 (lL s)])), .bool false]) (fun _ => by kernel_rfl) ?_
    refine pl_val (want_no rfl) (some 9) rfl (.agg (av 3 (ls [.bool (lV s), .int .u64 (lH s), .int .u64 (lL s)]))) (fun _ => by kernel_rfl) ?_
    refine pl_val (want_no rfl) (some 10) rfl (.bool false) (fun _ => by kernel_rfl) ?_
    refine pl_new M (want_no rfl) (some 4) rfl (.cells (av 3 (ls [.bool false, .int .u64 0, .int .u64 0])) 24) (fun _ => by kernel_rfl) ?_
    intro g2 u3 M
    replace M : Mem ⟨w, []⟩ [⟨g1, .cells (av 3 (ls [.bool false, .int .u64 0, .int .u64 0])) 24⟩, ⟨g2, .cells (av 3 (ls [.bool false, .int .u64 0, .int .u64 0])) 24⟩] u3 := M
    refine pl_put M (want_no rfl) rfl 24 _ _ rfl 1 g2 0 (by kernel_rfl) 3 24 (ls [.bool false, .int .u64 0, .int .u64 0]) rfl 3 (ls [.bool (lV s), .int .u64 (lH s), .int .u64 (lL s)]) (ls [.bool (lV s), .int .u64 (lH s), .int .u64 (lL s)]) (by kernel_rfl) inz24 (by decide) (one_ls _ rfl) (fun j hj => by rw [if_pos (by omega), Nat.sub_zero]) ?_
    intro u4 M
    replace M : Mem ⟨w, []⟩ [⟨g1, .cells (av 3 (ls [.bool false, .int .u64 0, .int .u64 0])) 24⟩, ⟨g2, .cells (av 3 (ls [.bool (lV s), .int .u64 (lH s), .int .u64 (lL s)])) 24⟩] u4 := M
    refine pl_val (want_no rfl) (some 5) rfl (.bool false) (fun _ => by kernel_rfl) ?_
    refine pl_nil ?_
    refine au_then ?_
    refine wp_seq ?_
    refine rg_lit ?_
    refine pl_val (want_no rfl) (some 11) rfl (.bool false) (fun _ => by kernel_rfl) ?_
    refine pl_val (want_no rfl) (some 12) rfl (.bool false) (fun _ => by kernel_rfl) ?_
    refine pl_skip (want_off 1 true rfl 12 rfl (by kernel_rfl)) (some 13) rfl ?_
    refine pl_skip (want_off 1 true rfl 12 rfl (by kernel_rfl)) (some 14) rfl ?_
    refine pl_skip (want_off 1 true rfl 12 rfl (by kernel_rfl)) (some 15) rfl ?_
    refine pl_skip (want_off 1 true rfl 12 rfl (by kernel_rfl)) (some 16) rfl ?_
    refine pl_val (want_no rfl) (some 17) rfl (.bool false) (fun _ => by kernel_rfl) ?_
    refine pl_nil ?_
    refine au_then ?_
    refine wp_cond_false (by kernel_rfl) ?_
    refine wp_skip ?_
    refine au_then ?_
    refine wp_seq ?_
    refine rg_lit ?_
    refine pl_val (want_no rfl) (some 19) rfl (.agg (av 3 (ls [.bool false, .int .u64 0, .int .u64 0]))) (fun _ => by kernel_rfl) ?_
    refine pl_put M (want_no rfl) rfl 24 _ _ rfl 0 g1 0 (by kernel_rfl) 3 24 (ls [.bool false, .int .u64 0, .int .u64 0]) rfl 3 (ls [.bool false, .int .u64 0, .int .u64 0]) (ls [.bool false, .int .u64 0, .int .u64 0]) (by kernel_rfl) inz24 (by decide) (one_ls _ rfl) (fun j hj => by rw [if_pos (by omega), Nat.sub_zero]) ?_
    intro u5 M
    replace M : Mem ⟨w, []⟩ [⟨g1, .cells (av 3 (ls [.bool false, .int .u64 0, .int .u64 0])) 24⟩, ⟨g2, .cells (av 3 (ls [.bool (lV s), .int .u64 (lH s), .int .u64 (lL s)])) 24⟩] u5 := M
    refine pl_val (want_no rfl) (some 3) rfl (.int .i64 8) (fun _ => by kernel_rfl) ?_
    refine pl_nil ?_
    refine au_then ?_
    refine wp_ret ?_
    have e0 : zB (rdE s) (lV s) = false := by rw [(show rdE s = 8 by unfold rdE; rw [if_neg (by rw [c0]; decide)])]; rfl
    have e1 : (zI (rdE s) (lH s)) = 0 := by rw [(show rdE s = 8 by unfold rdE; rw [if_neg (by rw [c0]; decide)])]; rfl
    have e2 : (zI (rdE s) (lL s)) = 0 := by rw [(show rdE s = 8 by unfold rdE; rw [if_neg (by rw [c0]; decide)])]; rfl
    have e3 : (rdE s) = 8 := (show rdE s = 8 by unfold rdE; rw [if_neg (by rw [c0]; decide)])
    exact bodyPost_ret (v := .tuple #[.agg (av 3 (ls [.bool false, .int .u64 0, .int .u64 0])), .int .i64 8]) (results_cell_tmp Tryz.results18 _ _ g1 24 (av 3 (ls [.bool false, .int .u64 0, .int .u64 0])) (0, 0) _ _ (by kernel_rfl) (by kernel_rfl) (M.get 0 rfl) Tryz.underlying24 rfl (by rw [av_size]; exact inz24)) (by kernel_rfl) ⟨by rw [e0, e1, e2, e3], below_grown M.old⟩

def rpV (s : ByteArray) : Bool := zB (rdE (cuA s ⟨#[47]⟩)) (lV (cuA s ⟨#[47]⟩))
def rpH (s : ByteArray) : Int := zI (rdE (cuA s ⟨#[47]⟩)) (lH (cuA s ⟨#[47]⟩))
def rpL (s : ByteArray) : Int := zI (rdE (cuA s ⟨#[47]⟩)) (lL (cuA s ⟨#[47]⟩))
def rpB (s : ByteArray) : Int := (nmb 10 255 (cuB s ⟨#[47]⟩)).getD 0
def rpE (s : ByteArray) : Int := if rdE (cuA s ⟨#[47]⟩) = 0 then (if (nmb 10 255 (cuB s ⟨#[47]⟩)).isSome = true then (if ptx (rpV s) (rpH s) (rpL s) (rpB s) = s then 0 else 8) else 8) else 8
theorem nmb_le (s : ByteArray) : 0 ≤ (nmb 10 255 s).getD 0 ∧ (nmb 10 255 s).getD 0 ≤ 255 := by
  unfold nmb
  split
  · decide
  · cases h : prs 10 255 s with
    | none => decide
    | some x => exact prs_lt10 h
set_option maxRecDepth 100000 in
set_option maxHeartbeats 4000000 in
set_option linter.unusedSimpArgs false in
theorem c_ReadPrefix (s : ByteArray) (hs : s.size ≤ 200000) (w : World) (hL : Laid w)  :
    Calls Tryz.prog 20 #[.string s] w fun r w' => r = .returned (.tuple #[.agg (av 4 (ls [.bool (zB (rpE s) (rpV s)), .int .u64 (zI (rpE s) (rpH s)), .int .u64 (zI (rpE s) (rpL s)), .int .u8 (zI (rpE s) (rpB s))])), .int .i64 (rpE s)]) ∧ Below w.heap.size w w' := by
  go_enter Tryz.func20, Tryz.ntmps20
  have M := Mem.start hL
  refine wp_seq ?_
  refine rg_lit ?_
  refine pl_new M (want_no rfl) (some 2) rfl (.cells (av 4 (ls [.bool false, .int .u64 0, .int .u64 0, .int .u8 0])) 39) (fun _ => by kernel_rfl) ?_
  intro g1 u1 M
  replace M : Mem ⟨w, []⟩ [⟨g1, .cells (av 4 (ls [.bool false, .int .u64 0, .int .u64 0, .int .u8 0])) 39⟩] u1 := M
  refine pl_val (want_no rfl) (some 3) rfl (.int .i64 0) (fun _ => by kernel_rfl) ?_
  refine pl_nil ?_
  refine au_then ?_
  refine wp_seq ?_
  refine rg_lit ?_
  refine pl_val (want_no rfl) (some 13) rfl (.string s) (fun _ => by kernel_rfl) ?_
  refine pl_call M (want_no rfl) (some 14) rfl 46 #[.string s, .string ⟨#[47]⟩] (.tuple #[.string (cuA s ⟨#[47]⟩), .string (cuB s ⟨#[47]⟩), .bool (cuC s ⟨#[47]⟩)]) (fun _ => by kernel_rfl) (fun w M => c_Cut s ⟨#[47]⟩ (by omega) w M.laid) ?_
  intro u2 M
  refine pl_val (want_no rfl) (some 12) rfl (.tuple #[.string (cuA s ⟨#[47]⟩), .string (cuB s ⟨#[47]⟩), .bool (cuC s ⟨#[47]⟩)]) (fun _ => by kernel_rfl) ?_
  refine pl_val (want_no rfl) (some 15) rfl (.string (cuA s ⟨#[47]⟩)) (fun _ => by kernel_rfl) ?_
  refine pl_val (want_no rfl) (some 16) rfl (.string (cuB s ⟨#[47]⟩)) (fun _ => by kernel_rfl) ?_
  refine pl_val (want_no rfl) (some 17) rfl (.bool (cuC s ⟨#[47]⟩)) (fun _ => by kernel_rfl) ?_
  refine pl_val (want_no rfl) (some 4) rfl (.string (cuA s ⟨#[47]⟩)) (fun _ => by kernel_rfl) ?_
  refine pl_val (want_no rfl) (some 5) rfl (.string (cuB s ⟨#[47]⟩)) (fun _ => by kernel_rfl) ?_
  refine pl_val (want_no rfl) (some 6) rfl (.bool (cuC s ⟨#[47]⟩)) (fun _ => by kernel_rfl) ?_
  refine pl_nil ?_
  refine au_then ?_
  refine wp_seq ?_
  refine rg_lit ?_
  refine pl_val (want_no rfl) (some 19) rfl (.string (cuA s ⟨#[47]⟩)) (fun _ => by kernel_rfl) ?_
  refine pl_call M (want_no rfl) (some 20) rfl 18 #[.string (cuA s ⟨#[47]⟩)] (.tuple #[.agg (av 3 (ls [.bool (rpV s), .int .u64 (rpH s), .int .u64 (rpL s)])), .int .i64 (rdE (cuA s ⟨#[47]⟩))]) (fun _ => by kernel_rfl) (fun w M => c_Read (cuA s ⟨#[47]⟩) w M.laid) ?_
  intro u3 M
  refine pl_val (want_no rfl) (some 18) rfl (.tuple #[.agg (av 3 (ls [.bool (rpV s), .int .u64 (rpH s), .int .u64 (rpL s)])), .int .i64 (rdE (cuA s ⟨#[47]⟩))]) (fun _ => by kernel_rfl) ?_
  refine pl_val (want_no rfl) (some 21) rfl (.agg (av 3 (ls [.bool (rpV s), .int .u64 (rpH s), .int .u64 (rpL s)]))) (fun _ => by kernel_rfl) ?_
  refine pl_val (want_no rfl) (some 22) rfl (.int .i64 (rdE (cuA s ⟨#[47]⟩))) (fun _ => by kernel_rfl) ?_
  refine pl_new M (want_no rfl) (some 7) rfl (.cells (av 3 (ls [.bool false, .int .u64 0, .int .u64 0])) 24) (fun _ => by kernel_rfl) ?_
  intro g2 u4 M
  replace M : Mem ⟨w, []⟩ [⟨g1, .cells (av 4 (ls [.bool false, .int .u64 0, .int .u64 0, .int .u8 0])) 39⟩, ⟨g2, .cells (av 3 (ls [.bool false, .int .u64 0, .int .u64 0])) 24⟩] u4 := M
  refine pl_put M (want_no rfl) rfl 24 _ _ rfl 1 g2 0 (by kernel_rfl) 3 24 (ls [.bool false, .int .u64 0, .int .u64 0]) rfl 3 (ls [.bool (rpV s), .int .u64 (rpH s), .int .u64 (rpL s)]) (ls [.bool (rpV s), .int .u64 (rpH s), .int .u64 (rpL s)]) (by kernel_rfl) inz24 (by decide) (one_ls _ rfl) (fun j hj => by rw [if_pos (by omega), Nat.sub_zero]) ?_
  intro u5 M
  replace M : Mem ⟨w, []⟩ [⟨g1, .cells (av 4 (ls [.bool false, .int .u64 0, .int .u64 0, .int .u8 0])) 39⟩, ⟨g2, .cells (av 3 (ls [.bool (rpV s), .int .u64 (rpH s), .int .u64 (rpL s)])) 24⟩] u5 := M
  refine pl_val (want_no rfl) (some 8) rfl (.int .i64 (rdE (cuA s ⟨#[47]⟩))) (fun _ => by kernel_rfl) ?_
  refine pl_nil ?_
  refine au_then ?_
  refine wp_seq ?_
  refine rg_lit ?_
  refine pl_val (want_no rfl) (some 24) rfl (.string (cuB s ⟨#[47]⟩)) (fun _ => by kernel_rfl) ?_
  refine pl_call M (want_no rfl) (some 25) rfl 47 #[.string (cuB s ⟨#[47]⟩), .int .i64 10, .int .i64 8] (.tuple #[.int .u16 (rpB s), .bool (nmb 10 255 (cuB s ⟨#[47]⟩)).isSome]) (fun _ => by kernel_rfl) (fun w M => c_number10 (cuB s ⟨#[47]⟩) w M.laid) ?_
  intro u6 M
  refine pl_val (want_no rfl) (some 23) rfl (.tuple #[.int .u16 (rpB s), .bool (nmb 10 255 (cuB s ⟨#[47]⟩)).isSome]) (fun _ => by kernel_rfl) ?_
  refine pl_val (want_no rfl) (some 26) rfl (.int .u16 (rpB s)) (fun _ => by kernel_rfl) ?_
  refine pl_val (want_no rfl) (some 27) rfl (.bool (nmb 10 255 (cuB s ⟨#[47]⟩)).isSome) (fun _ => by kernel_rfl) ?_
  refine pl_val (want_no rfl) (some 9) rfl (.int .u16 (rpB s)) (fun _ => by kernel_rfl) ?_
  refine pl_val (want_no rfl) (some 10) rfl (.bool (nmb 10 255 (cuB s ⟨#[47]⟩)).isSome) (fun _ => by kernel_rfl) ?_
  refine pl_nil ?_
  refine au_then ?_
  refine wp_seq ?_
  refine rg_lit ?_
  refine pl_load M (want_no rfl) (some 28) rfl 24 _ rfl 1 g2 0 (by kernel_rfl) 3 24 (ls [.bool (rpV s), .int .u64 (rpH s), .int .u64 (rpL s)]) rfl 3 (ls [.bool (rpV s), .int .u64 (rpH s), .int .u64 (rpL s)]) (fun j _ => by rw [Nat.zero_add]) (by decide) _ Tryz.underlying24 rfl inz24 ?_
  refine pl_val (want_no rfl) (some 29) rfl (.int .u16 (rpB s)) (fun _ => by kernel_rfl) ?_
  refine pl_val (want_no rfl) (some 30) rfl (.int .u8 (rpB s)) (fun w => Eq.trans (b := .ok (.value (.int .u8 (cv .u8 (rpB s)))) w) (by kernel_rfl) (by have : 0 ≤ rpB s ∧ rpB s ≤ 255 := nmb_le _; rw [cv_u8]; congr 3; omega)) ?_
  refine pl_val (want_no rfl) (some 31) rfl (.agg (av 4 (ls [.bool (rpV s), .int .u64 (rpH s), .int .u64 (rpL s), .int .u8 (rpB s)]))) (fun _ => by kernel_rfl) ?_
  refine pl_new M (want_no rfl) (some 11) rfl (.cells (av 4 (ls [.bool false, .int .u64 0, .int .u64 0, .int .u8 0])) 39) (fun _ => by kernel_rfl) ?_
  intro g3 u7 M
  replace M : Mem ⟨w, []⟩ [⟨g1, .cells (av 4 (ls [.bool false, .int .u64 0, .int .u64 0, .int .u8 0])) 39⟩, ⟨g2, .cells (av 3 (ls [.bool (rpV s), .int .u64 (rpH s), .int .u64 (rpL s)])) 24⟩, ⟨g3, .cells (av 4 (ls [.bool false, .int .u64 0, .int .u64 0, .int .u8 0])) 39⟩] u7 := M
  refine pl_put M (want_no rfl) rfl 39 _ _ rfl 2 g3 0 (by kernel_rfl) 4 39 (ls [.bool false, .int .u64 0, .int .u64 0, .int .u8 0]) rfl 4 (ls [.bool (rpV s), .int .u64 (rpH s), .int .u64 (rpL s), .int .u8 (rpB s)]) (ls [.bool (rpV s), .int .u64 (rpH s), .int .u64 (rpL s), .int .u8 (rpB s)]) (by kernel_rfl) inz39 (by decide) (one_ls _ rfl) (fun j hj => by rw [if_pos (by omega), Nat.sub_zero]) ?_
  intro u8 M
  replace M : Mem ⟨w, []⟩ [⟨g1, .cells (av 4 (ls [.bool false, .int .u64 0, .int .u64 0, .int .u8 0])) 39⟩, ⟨g2, .cells (av 3 (ls [.bool (rpV s), .int .u64 (rpH s), .int .u64 (rpL s)])) 24⟩, ⟨g3, .cells (av 4 (ls [.bool (rpV s), .int .u64 (rpH s), .int .u64 (rpL s), .int .u8 (rpB s)])) 39⟩] u8 := M
  refine pl_nil ?_
  refine au_then ?_
  refine wp_seq ?_
  refine wp_seq ?_
  refine rg_lit ?_
  refine pl_val (want_no rfl) (some 32) rfl (.int .i64 (rdE (cuA s ⟨#[47]⟩))) (fun _ => by kernel_rfl) ?_
  by_cases c0 : (rdE (cuA s ⟨#[47]⟩)) = 0
  · skip
    refine pl_val (want_no rfl) (some 33) rfl (.bool true) (fun w => Eq.trans (b := .ok (.value (.bool (decide ((rdE (cuA s ⟨#[47]⟩)) = 0)))) w) (by kernel_rfl) (by rw [decide_eq_true (c0)])) ?_
    refine pl_val (want_no rfl) (some 34) rfl (.bool true) (fun _ => by kernel_rfl) ?_
    rcases Bool.eq_false_or_eq_true ((nmb 10 255 (cuB s ⟨#[47]⟩)).isSome) with c1 | c1
    · skip
      refine pl_val (want_on 2 true rfl 34 rfl (by kernel_rfl)) (some 35) rfl (.bool true) (fun w => Eq.trans (b := .ok (.value (.bool (nmb 10 255 (cuB s ⟨#[47]⟩)).isSome)) w) (by kernel_rfl) (by rw [c1])) ?_
      refine pl_val (want_no rfl) (some 36) rfl (.bool true) (fun _ => by kernel_rfl) ?_
      refine pl_val (want_no rfl) (some 37) rfl (.bool true) (fun _ => by kernel_rfl) ?_
      refine pl_load M (want_on 5 true rfl 37 rfl (by kernel_rfl)) (some 38) rfl 39 _ rfl 2 g3 0 (by kernel_rfl) 4 39 (ls [.bool (rpV s), .int .u64 (rpH s), .int .u64 (rpL s), .int .u8 (rpB s)]) rfl 4 (ls [.bool (rpV s), .int .u64 (rpH s), .int .u64 (rpL s), .int .u8 (rpB s)]) (fun j _ => by rw [Nat.zero_add]) (by decide) _ Tryz.underlying39 rfl inz39 ?_
      refine pl_call M (want_on 5 true rfl 37 rfl (by kernel_rfl)) (some 39) rfl 24 #[.agg (av 4 (ls [.bool (rpV s), .int .u64 (rpH s), .int .u64 (rpL s), .int .u8 (rpB s)]))] (.string (ptx (rpV s) (rpH s) (rpL s) (rpB s))) (fun _ => by kernel_rfl) (fun w M => c_PrefixText (rpV s) (rpH s) (rpL s) (rpB s) (nmb_le _).1 (nmb_le _).2 w M.laid) ?_
      intro u9 M
      refine pl_val (want_on 5 true rfl 37 rfl (by kernel_rfl)) (some 40) rfl (.string s) (fun _ => by kernel_rfl) ?_
      by_cases c2 : (ptx (rpV s) (rpH s) (rpL s) (rpB s)) = s
      · skip
        refine pl_val (want_on 5 true rfl 37 rfl (by kernel_rfl)) (some 41) rfl (.bool true) (fun w => Eq.trans (b := .ok (.value (.bool ((ptx (rpV s) (rpH s) (rpL s) (rpB s)).toList == s.toList))) w) (by kernel_rfl) (by rw [seq_pos c2])) ?_
        refine pl_val (want_no rfl) (some 42) rfl (.bool true) (fun _ => by kernel_rfl) ?_
        refine pl_nil ?_
        refine au_then ?_
        refine wp_cond_true (by kernel_rfl) ?_
        refine wp_seq ?_
        refine rg_lit ?_
        refine pl_load M (want_no rfl) (some 43) rfl 39 _ rfl 2 g3 0 (by kernel_rfl) 4 39 (ls [.bool (rpV s), .int .u64 (rpH s), .int .u64 (rpL s), .int .u8 (rpB s)]) rfl 4 (ls [.bool (rpV s), .int .u64 (rpH s), .int .u64 (rpL s), .int .u8 (rpB s)]) (fun j _ => by rw [Nat.zero_add]) (by decide) _ Tryz.underlying39 rfl inz39 ?_
        refine pl_put M (want_no rfl) rfl 39 _ _ rfl 0 g1 0 (by kernel_rfl) 4 39 (ls [.bool false, .int .u64 0, .int .u64 0, .int .u8 0]) rfl 4 (ls [.bool (rpV s), .int .u64 (rpH s), .int .u64 (rpL s), .int .u8 (rpB s)]) (ls [.bool (rpV s), .int .u64 (rpH s), .int .u64 (rpL s), .int .u8 (rpB s)]) (by kernel_rfl) inz39 (by decide) (one_ls _ rfl) (fun j hj => by rw [if_pos (by omega), Nat.sub_zero]) ?_
        intro u10 M
        replace M : Mem ⟨w, []⟩ [⟨g1, .cells (av 4 (ls [.bool (rpV s), .int .u64 (rpH s), .int .u64 (rpL s), .int .u8 (rpB s)])) 39⟩, ⟨g2, .cells (av 3 (ls [.bool (rpV s), .int .u64 (rpH s), .int .u64 (rpL s)])) 24⟩, ⟨g3, .cells (av 4 (ls [.bool (rpV s), .int .u64 (rpH s), .int .u64 (rpL s), .int .u8 (rpB s)])) 39⟩] u10 := M
        refine pl_val (want_no rfl) (some 3) rfl (.int .i64 0) (fun _ => by kernel_rfl) ?_
        refine pl_nil ?_
        refine au_then ?_
        refine wp_ret ?_
        refine au_then_ret ?_
        have e0 : zB (rpE s) (rpV s) = rpV s := by rw [(show rpE s = 0 by unfold rpE; rw [if_pos c0, if_pos c1, if_pos c2])]; rfl
        have e1 : (zI (rpE s) (rpH s)) = (rpH s) := by rw [(show rpE s = 0 by unfold rpE; rw [if_pos c0, if_pos c1, if_pos c2])]; rfl
        have e2 : (zI (rpE s) (rpL s)) = (rpL s) := by rw [(show rpE s = 0 by unfold rpE; rw [if_pos c0, if_pos c1, if_pos c2])]; rfl
        have e3 : (zI (rpE s) (rpB s)) = (rpB s) := by rw [(show rpE s = 0 by unfold rpE; rw [if_pos c0, if_pos c1, if_pos c2])]; rfl
        have e4 : (rpE s) = 0 := (show rpE s = 0 by unfold rpE; rw [if_pos c0, if_pos c1, if_pos c2])
        exact bodyPost_ret (v := .tuple #[.agg (av 4 (ls [.bool (rpV s), .int .u64 (rpH s), .int .u64 (rpL s), .int .u8 (rpB s)])), .int .i64 0]) (results_cell_tmp Tryz.results20 _ _ g1 39 (av 4 (ls [.bool (rpV s), .int .u64 (rpH s), .int .u64 (rpL s), .int .u8 (rpB s)])) (0, 0) _ _ (by kernel_rfl) (by kernel_rfl) (M.get 0 rfl) Tryz.underlying39 rfl (by rw [av_size]; exact inz39)) (by kernel_rfl) ⟨by rw [e0, e1, e2, e3, e4], below_grown M.old⟩
      · skip
        refine pl_val (want_on 5 true rfl 37 rfl (by kernel_rfl)) (some 41) rfl (.bool false) (fun w => Eq.trans (b := .ok (.value (.bool ((ptx (rpV s) (rpH s) (rpL s) (rpB s)).toList == s.toList))) w) (by kernel_rfl) (by rw [seq_neg c2])) ?_
        refine pl_val (want_no rfl) (some 42) rfl (.bool false) (fun _ => by kernel_rfl) ?_
        refine pl_nil ?_
        refine au_then ?_
        refine wp_cond_false (by kernel_rfl) ?_
        refine wp_skip ?_
        refine au_then ?_
        refine wp_seq ?_
        refine rg_lit ?_
        refine pl_val (want_no rfl) (some 44) rfl (.agg (av 4 (ls [.bool false, .int .u64 0, .int .u64 0, .int .u8 0]))) (fun _ => by kernel_rfl) ?_
        refine pl_put M (want_no rfl) rfl 39 _ _ rfl 0 g1 0 (by kernel_rfl) 4 39 (ls [.bool false, .int .u64 0, .int .u64 0, .int .u8 0]) rfl 4 (ls [.bool false, .int .u64 0, .int .u64 0, .int .u8 0]) (ls [.bool false, .int .u64 0, .int .u64 0, .int .u8 0]) (by kernel_rfl) inz39 (by decide) (one_ls _ rfl) (fun j hj => by rw [if_pos (by omega), Nat.sub_zero]) ?_
        intro u10 M
        replace M : Mem ⟨w, []⟩ [⟨g1, .cells (av 4 (ls [.bool false, .int .u64 0, .int .u64 0, .int .u8 0])) 39⟩, ⟨g2, .cells (av 3 (ls [.bool (rpV s), .int .u64 (rpH s), .int .u64 (rpL s)])) 24⟩, ⟨g3, .cells (av 4 (ls [.bool (rpV s), .int .u64 (rpH s), .int .u64 (rpL s), .int .u8 (rpB s)])) 39⟩] u10 := M
        refine pl_val (want_no rfl) (some 3) rfl (.int .i64 8) (fun _ => by kernel_rfl) ?_
        refine pl_nil ?_
        refine au_then ?_
        refine wp_ret ?_
        have e0 : zB (rpE s) (rpV s) = false := by rw [(show rpE s = 8 by unfold rpE; rw [if_pos c0, if_pos c1, if_neg c2])]; rfl
        have e1 : (zI (rpE s) (rpH s)) = 0 := by rw [(show rpE s = 8 by unfold rpE; rw [if_pos c0, if_pos c1, if_neg c2])]; rfl
        have e2 : (zI (rpE s) (rpL s)) = 0 := by rw [(show rpE s = 8 by unfold rpE; rw [if_pos c0, if_pos c1, if_neg c2])]; rfl
        have e3 : (zI (rpE s) (rpB s)) = 0 := by rw [(show rpE s = 8 by unfold rpE; rw [if_pos c0, if_pos c1, if_neg c2])]; rfl
        have e4 : (rpE s) = 8 := (show rpE s = 8 by unfold rpE; rw [if_pos c0, if_pos c1, if_neg c2])
        exact bodyPost_ret (v := .tuple #[.agg (av 4 (ls [.bool false, .int .u64 0, .int .u64 0, .int .u8 0])), .int .i64 8]) (results_cell_tmp Tryz.results20 _ _ g1 39 (av 4 (ls [.bool false, .int .u64 0, .int .u64 0, .int .u8 0])) (0, 0) _ _ (by kernel_rfl) (by kernel_rfl) (M.get 0 rfl) Tryz.underlying39 rfl (by rw [av_size]; exact inz39)) (by kernel_rfl) ⟨by rw [e0, e1, e2, e3, e4], below_grown M.old⟩
    · skip
      refine pl_val (want_on 2 true rfl 34 rfl (by kernel_rfl)) (some 35) rfl (.bool false) (fun w => Eq.trans (b := .ok (.value (.bool (nmb 10 255 (cuB s ⟨#[47]⟩)).isSome)) w) (by kernel_rfl) (by rw [c1])) ?_
      refine pl_val (want_no rfl) (some 36) rfl (.bool false) (fun _ => by kernel_rfl) ?_
      refine pl_val (want_no rfl) (some 37) rfl (.bool false) (fun _ => by kernel_rfl) ?_
      refine pl_skip (want_off 5 true rfl 37 rfl (by kernel_rfl)) (some 38) rfl ?_
      refine pl_skip (want_off 5 true rfl 37 rfl (by kernel_rfl)) (some 39) rfl ?_
      refine pl_skip (want_off 5 true rfl 37 rfl (by kernel_rfl)) (some 40) rfl ?_
      refine pl_skip (want_off 5 true rfl 37 rfl (by kernel_rfl)) (some 41) rfl ?_
      refine pl_val (want_no rfl) (some 42) rfl (.bool false) (fun _ => by kernel_rfl) ?_
      refine pl_nil ?_
      refine au_then ?_
      refine wp_cond_false (by kernel_rfl) ?_
      refine wp_skip ?_
      refine au_then ?_
      refine wp_seq ?_
      refine rg_lit ?_
      refine pl_val (want_no rfl) (some 44) rfl (.agg (av 4 (ls [.bool false, .int .u64 0, .int .u64 0, .int .u8 0]))) (fun _ => by kernel_rfl) ?_
      refine pl_put M (want_no rfl) rfl 39 _ _ rfl 0 g1 0 (by kernel_rfl) 4 39 (ls [.bool false, .int .u64 0, .int .u64 0, .int .u8 0]) rfl 4 (ls [.bool false, .int .u64 0, .int .u64 0, .int .u8 0]) (ls [.bool false, .int .u64 0, .int .u64 0, .int .u8 0]) (by kernel_rfl) inz39 (by decide) (one_ls _ rfl) (fun j hj => by rw [if_pos (by omega), Nat.sub_zero]) ?_
      intro u9 M
      replace M : Mem ⟨w, []⟩ [⟨g1, .cells (av 4 (ls [.bool false, .int .u64 0, .int .u64 0, .int .u8 0])) 39⟩, ⟨g2, .cells (av 3 (ls [.bool (rpV s), .int .u64 (rpH s), .int .u64 (rpL s)])) 24⟩, ⟨g3, .cells (av 4 (ls [.bool (rpV s), .int .u64 (rpH s), .int .u64 (rpL s), .int .u8 (rpB s)])) 39⟩] u9 := M
      refine pl_val (want_no rfl) (some 3) rfl (.int .i64 8) (fun _ => by kernel_rfl) ?_
      refine pl_nil ?_
      refine au_then ?_
      refine wp_ret ?_
      have e0 : zB (rpE s) (rpV s) = false := by rw [(show rpE s = 8 by unfold rpE; rw [if_pos c0, if_neg (by rw [c1]; decide)])]; rfl
      have e1 : (zI (rpE s) (rpH s)) = 0 := by rw [(show rpE s = 8 by unfold rpE; rw [if_pos c0, if_neg (by rw [c1]; decide)])]; rfl
      have e2 : (zI (rpE s) (rpL s)) = 0 := by rw [(show rpE s = 8 by unfold rpE; rw [if_pos c0, if_neg (by rw [c1]; decide)])]; rfl
      have e3 : (zI (rpE s) (rpB s)) = 0 := by rw [(show rpE s = 8 by unfold rpE; rw [if_pos c0, if_neg (by rw [c1]; decide)])]; rfl
      have e4 : (rpE s) = 8 := (show rpE s = 8 by unfold rpE; rw [if_pos c0, if_neg (by rw [c1]; decide)])
      exact bodyPost_ret (v := .tuple #[.agg (av 4 (ls [.bool false, .int .u64 0, .int .u64 0, .int .u8 0])), .int .i64 8]) (results_cell_tmp Tryz.results20 _ _ g1 39 (av 4 (ls [.bool false, .int .u64 0, .int .u64 0, .int .u8 0])) (0, 0) _ _ (by kernel_rfl) (by kernel_rfl) (M.get 0 rfl) Tryz.underlying39 rfl (by rw [av_size]; exact inz39)) (by kernel_rfl) ⟨by rw [e0, e1, e2, e3, e4], below_grown M.old⟩
  · skip
    refine pl_val (want_no rfl) (some 33) rfl (.bool false) (fun w => Eq.trans (b := .ok (.value (.bool (decide ((rdE (cuA s ⟨#[47]⟩)) = 0)))) w) (by kernel_rfl) (by rw [decide_eq_false (c0)])) ?_
    refine pl_val (want_no rfl) (some 34) rfl (.bool false) (fun _ => by kernel_rfl) ?_
    refine pl_skip (want_off 2 true rfl 34 rfl (by kernel_rfl)) (some 35) rfl ?_
    refine pl_val (want_no rfl) (some 36) rfl (.bool false) (fun _ => by kernel_rfl) ?_
    refine pl_val (want_no rfl) (some 37) rfl (.bool false) (fun _ => by kernel_rfl) ?_
    refine pl_skip (want_off 5 true rfl 37 rfl (by kernel_rfl)) (some 38) rfl ?_
    refine pl_skip (want_off 5 true rfl 37 rfl (by kernel_rfl)) (some 39) rfl ?_
    refine pl_skip (want_off 5 true rfl 37 rfl (by kernel_rfl)) (some 40) rfl ?_
    refine pl_skip (want_off 5 true rfl 37 rfl (by kernel_rfl)) (some 41) rfl ?_
    refine pl_val (want_no rfl) (some 42) rfl (.bool false) (fun _ => by kernel_rfl) ?_
    refine pl_nil ?_
    refine au_then ?_
    refine wp_cond_false (by kernel_rfl) ?_
    refine wp_skip ?_
    refine au_then ?_
    refine wp_seq ?_
    refine rg_lit ?_
    refine pl_val (want_no rfl) (some 44) rfl (.agg (av 4 (ls [.bool false, .int .u64 0, .int .u64 0, .int .u8 0]))) (fun _ => by kernel_rfl) ?_
    refine pl_put M (want_no rfl) rfl 39 _ _ rfl 0 g1 0 (by kernel_rfl) 4 39 (ls [.bool false, .int .u64 0, .int .u64 0, .int .u8 0]) rfl 4 (ls [.bool false, .int .u64 0, .int .u64 0, .int .u8 0]) (ls [.bool false, .int .u64 0, .int .u64 0, .int .u8 0]) (by kernel_rfl) inz39 (by decide) (one_ls _ rfl) (fun j hj => by rw [if_pos (by omega), Nat.sub_zero]) ?_
    intro u9 M
    replace M : Mem ⟨w, []⟩ [⟨g1, .cells (av 4 (ls [.bool false, .int .u64 0, .int .u64 0, .int .u8 0])) 39⟩, ⟨g2, .cells (av 3 (ls [.bool (rpV s), .int .u64 (rpH s), .int .u64 (rpL s)])) 24⟩, ⟨g3, .cells (av 4 (ls [.bool (rpV s), .int .u64 (rpH s), .int .u64 (rpL s), .int .u8 (rpB s)])) 39⟩] u9 := M
    refine pl_val (want_no rfl) (some 3) rfl (.int .i64 8) (fun _ => by kernel_rfl) ?_
    refine pl_nil ?_
    refine au_then ?_
    refine wp_ret ?_
    have e0 : zB (rpE s) (rpV s) = false := by rw [(show rpE s = 8 by unfold rpE; rw [if_neg c0])]; rfl
    have e1 : (zI (rpE s) (rpH s)) = 0 := by rw [(show rpE s = 8 by unfold rpE; rw [if_neg c0])]; rfl
    have e2 : (zI (rpE s) (rpL s)) = 0 := by rw [(show rpE s = 8 by unfold rpE; rw [if_neg c0])]; rfl
    have e3 : (zI (rpE s) (rpB s)) = 0 := by rw [(show rpE s = 8 by unfold rpE; rw [if_neg c0])]; rfl
    have e4 : (rpE s) = 8 := (show rpE s = 8 by unfold rpE; rw [if_neg c0])
    exact bodyPost_ret (v := .tuple #[.agg (av 4 (ls [.bool false, .int .u64 0, .int .u64 0, .int .u8 0])), .int .i64 8]) (results_cell_tmp Tryz.results20 _ _ g1 39 (av 4 (ls [.bool false, .int .u64 0, .int .u64 0, .int .u8 0])) (0, 0) _ _ (by kernel_rfl) (by kernel_rfl) (M.get 0 rfl) Tryz.underlying39 rfl (by rw [av_size]; exact inz39)) (by kernel_rfl) ⟨by rw [e0, e1, e2, e3, e4], below_grown M.old⟩


end Go.Proofs.YtndonmdgplojnaaGreatDoor

/- One packet, one prefix: the known run that every statement asks. -/
namespace Go.Proofs.YtndonmdgplojnaaGreatDoor
open Go.RowKit

set_option maxRecDepth 100000 in
set_option maxHeartbeats 4000000 in
set_option linter.unusedSimpArgs false in
theorem c_works  (w : World) (hL : Laid w)  :
    Calls Tryz.prog 9 #[] w fun r w' => r = .returned (.bool true) ∧ Below w.heap.size w w' := by
  go_enter Tryz.func9, Tryz.ntmps9
  have M := Mem.start hL
  refine wp_seq ?_
  refine rg_lit ?_
  refine pl_val (want_no rfl) (some 0) rfl (.bool false) (fun _ => by kernel_rfl) ?_
  refine pl_nil ?_
  refine au_then ?_
  refine wp_seq ?_
  refine rg_lit ?_
  refine pl_val (want_no rfl) (some 10) rfl (.agg (av 3 (ls [.bool false, .int .u64 0, .int .u64 167772161]))) (fun _ => by kernel_rfl) ?_
  refine pl_val (want_no rfl) (some 11) rfl (.agg (av 3 (ls [.bool false, .int .u64 0, .int .u64 167772162]))) (fun _ => by kernel_rfl) ?_
  refine pl_val (want_no rfl) (some 12) rfl (.agg (av 9 (ls [.bool false, .int .u64 0, .int .u64 167772161, .bool false, .int .u64 0, .int .u64 167772162, .int .u8 17, .int .u8 64, .string ⟨#[97, 98]⟩]))) (fun _ => by kernel_rfl) ?_
  refine pl_new M (want_no rfl) (some 1) rfl (.cells (av 9 (ls [.bool false, .int .u64 0, .int .u64 0, .bool false, .int .u64 0, .int .u64 0, .int .u8 0, .int .u8 0, .string ⟨#[]⟩])) 26) (fun _ => by kernel_rfl) ?_
  intro g1 u1 M
  replace M : Mem ⟨w, []⟩ [⟨g1, .cells (av 9 (ls [.bool false, .int .u64 0, .int .u64 0, .bool false, .int .u64 0, .int .u64 0, .int .u8 0, .int .u8 0, .string ⟨#[]⟩])) 26⟩] u1 := M
  refine pl_put M (want_no rfl) rfl 26 _ _ rfl 0 g1 0 (by kernel_rfl) 9 26 (ls [.bool false, .int .u64 0, .int .u64 0, .bool false, .int .u64 0, .int .u64 0, .int .u8 0, .int .u8 0, .string ⟨#[]⟩]) rfl 9 (ls [.bool false, .int .u64 0, .int .u64 167772161, .bool false, .int .u64 0, .int .u64 167772162, .int .u8 17, .int .u8 64, .string ⟨#[97, 98]⟩]) (ls [.bool false, .int .u64 0, .int .u64 167772161, .bool false, .int .u64 0, .int .u64 167772162, .int .u8 17, .int .u8 64, .string ⟨#[97, 98]⟩]) (by kernel_rfl) inz26 (by decide) (one_ls _ rfl) (fun j hj => by rw [if_pos (by omega), Nat.sub_zero]) ?_
  intro u2 M
  replace M : Mem ⟨w, []⟩ [⟨g1, .cells (av 9 (ls [.bool false, .int .u64 0, .int .u64 167772161, .bool false, .int .u64 0, .int .u64 167772162, .int .u8 17, .int .u8 64, .string ⟨#[97, 98]⟩])) 26⟩] u2 := M
  refine pl_nil ?_
  refine au_then ?_
  refine wp_seq ?_
  refine rg_lit ?_
  refine pl_load M (want_no rfl) (some 14) rfl 26 _ rfl 0 g1 0 (by kernel_rfl) 9 26 (ls [.bool false, .int .u64 0, .int .u64 167772161, .bool false, .int .u64 0, .int .u64 167772162, .int .u8 17, .int .u8 64, .string ⟨#[97, 98]⟩]) rfl 9 (ls [.bool false, .int .u64 0, .int .u64 167772161, .bool false, .int .u64 0, .int .u64 167772162, .int .u8 17, .int .u8 64, .string ⟨#[97, 98]⟩]) (fun j _ => by rw [Nat.zero_add]) (by decide) _ Tryz.underlying26 rfl inz26 ?_
  refine pl_call M (want_no rfl) (some 15) rfl 10 #[.agg (av 9 (ls [.bool false, .int .u64 0, .int .u64 167772161, .bool false, .int .u64 0, .int .u64 167772162, .int .u8 17, .int .u8 64, .string ⟨#[97, 98]⟩]))] (.tuple #[.string ⟨#[69, 0, 0, 22, 0, 0, 0, 0, 64, 17, 102, 213, 10, 0, 0, 1, 10, 0, 0, 2, 97, 98]⟩, .int .i64 0]) (fun _ => by kernel_rfl) (fun w M => call_val (c_Encode false 0 167772161 false 0 167772162 17 64 ⟨#[97, 98]⟩ (by decide) (by decide) (by decide) w M.laid) (by kernel_rfl)) ?_
  intro u3 M
  refine pl_val (want_no rfl) (some 13) rfl (.tuple #[.string ⟨#[69, 0, 0, 22, 0, 0, 0, 0, 64, 17, 102, 213, 10, 0, 0, 1, 10, 0, 0, 2, 97, 98]⟩, .int .i64 0]) (fun _ => by kernel_rfl) ?_
  refine pl_val (want_no rfl) (some 16) rfl (.string ⟨#[69, 0, 0, 22, 0, 0, 0, 0, 64, 17, 102, 213, 10, 0, 0, 1, 10, 0, 0, 2, 97, 98]⟩) (fun _ => by kernel_rfl) ?_
  refine pl_val (want_no rfl) (some 17) rfl (.int .i64 0) (fun _ => by kernel_rfl) ?_
  refine pl_val (want_no rfl) (some 2) rfl (.string ⟨#[69, 0, 0, 22, 0, 0, 0, 0, 64, 17, 102, 213, 10, 0, 0, 1, 10, 0, 0, 2, 97, 98]⟩) (fun _ => by kernel_rfl) ?_
  refine pl_val (want_no rfl) (some 3) rfl (.int .i64 0) (fun _ => by kernel_rfl) ?_
  refine pl_nil ?_
  refine au_then ?_
  refine wp_seq ?_
  refine rg_lit ?_
  refine pl_val (want_no rfl) (some 19) rfl (.string ⟨#[69, 0, 0, 22, 0, 0, 0, 0, 64, 17, 102, 213, 10, 0, 0, 1, 10, 0, 0, 2, 97, 98]⟩) (fun _ => by kernel_rfl) ?_
  refine pl_call M (want_no rfl) (some 20) rfl 16 #[.string ⟨#[69, 0, 0, 22, 0, 0, 0, 0, 64, 17, 102, 213, 10, 0, 0, 1, 10, 0, 0, 2, 97, 98]⟩] (.tuple #[.agg (av 9 (ls [.bool false, .int .u64 0, .int .u64 167772161, .bool false, .int .u64 0, .int .u64 167772162, .int .u8 17, .int .u8 64, .string ⟨#[97, 98]⟩])), .int .i64 0]) (fun _ => by kernel_rfl) (fun w M => call_val (c_Decode ⟨#[69, 0, 0, 22, 0, 0, 0, 0, 64, 17, 102, 213, 10, 0, 0, 1, 10, 0, 0, 2, 97, 98]⟩ (by decide) w M.laid) (by kernel_rfl)) ?_
  intro u4 M
  refine pl_val (want_no rfl) (some 18) rfl (.tuple #[.agg (av 9 (ls [.bool false, .int .u64 0, .int .u64 167772161, .bool false, .int .u64 0, .int .u64 167772162, .int .u8 17, .int .u8 64, .string ⟨#[97, 98]⟩])), .int .i64 0]) (fun _ => by kernel_rfl) ?_
  refine pl_val (want_no rfl) (some 21) rfl (.agg (av 9 (ls [.bool false, .int .u64 0, .int .u64 167772161, .bool false, .int .u64 0, .int .u64 167772162, .int .u8 17, .int .u8 64, .string ⟨#[97, 98]⟩]))) (fun _ => by kernel_rfl) ?_
  refine pl_val (want_no rfl) (some 22) rfl (.int .i64 0) (fun _ => by kernel_rfl) ?_
  refine pl_new M (want_no rfl) (some 4) rfl (.cells (av 9 (ls [.bool false, .int .u64 0, .int .u64 0, .bool false, .int .u64 0, .int .u64 0, .int .u8 0, .int .u8 0, .string ⟨#[]⟩])) 26) (fun _ => by kernel_rfl) ?_
  intro g2 u5 M
  replace M : Mem ⟨w, []⟩ [⟨g1, .cells (av 9 (ls [.bool false, .int .u64 0, .int .u64 167772161, .bool false, .int .u64 0, .int .u64 167772162, .int .u8 17, .int .u8 64, .string ⟨#[97, 98]⟩])) 26⟩, ⟨g2, .cells (av 9 (ls [.bool false, .int .u64 0, .int .u64 0, .bool false, .int .u64 0, .int .u64 0, .int .u8 0, .int .u8 0, .string ⟨#[]⟩])) 26⟩] u5 := M
  refine pl_put M (want_no rfl) rfl 26 _ _ rfl 1 g2 0 (by kernel_rfl) 9 26 (ls [.bool false, .int .u64 0, .int .u64 0, .bool false, .int .u64 0, .int .u64 0, .int .u8 0, .int .u8 0, .string ⟨#[]⟩]) rfl 9 (ls [.bool false, .int .u64 0, .int .u64 167772161, .bool false, .int .u64 0, .int .u64 167772162, .int .u8 17, .int .u8 64, .string ⟨#[97, 98]⟩]) (ls [.bool false, .int .u64 0, .int .u64 167772161, .bool false, .int .u64 0, .int .u64 167772162, .int .u8 17, .int .u8 64, .string ⟨#[97, 98]⟩]) (by kernel_rfl) inz26 (by decide) (one_ls _ rfl) (fun j hj => by rw [if_pos (by omega), Nat.sub_zero]) ?_
  intro u6 M
  replace M : Mem ⟨w, []⟩ [⟨g1, .cells (av 9 (ls [.bool false, .int .u64 0, .int .u64 167772161, .bool false, .int .u64 0, .int .u64 167772162, .int .u8 17, .int .u8 64, .string ⟨#[97, 98]⟩])) 26⟩, ⟨g2, .cells (av 9 (ls [.bool false, .int .u64 0, .int .u64 167772161, .bool false, .int .u64 0, .int .u64 167772162, .int .u8 17, .int .u8 64, .string ⟨#[97, 98]⟩])) 26⟩] u6 := M
  refine pl_val (want_no rfl) (some 5) rfl (.int .i64 0) (fun _ => by kernel_rfl) ?_
  refine pl_nil ?_
  refine au_then ?_
  refine wp_seq ?_
  refine rg_lit ?_
  refine pl_call M (want_no rfl) (some 24) rfl 20 #[.string ⟨#[49, 48, 46, 48, 46, 48, 46, 48, 47, 56]⟩] (.tuple #[.agg (av 4 (ls [.bool false, .int .u64 0, .int .u64 167772160, .int .u8 8])), .int .i64 0]) (fun _ => by kernel_rfl) (fun w M => call_val (c_ReadPrefix ⟨#[49, 48, 46, 48, 46, 48, 46, 48, 47, 56]⟩ (by decide) w M.laid) (by kernel_rfl)) ?_
  intro u7 M
  refine pl_val (want_no rfl) (some 23) rfl (.tuple #[.agg (av 4 (ls [.bool false, .int .u64 0, .int .u64 167772160, .int .u8 8])), .int .i64 0]) (fun _ => by kernel_rfl) ?_
  refine pl_val (want_no rfl) (some 25) rfl (.agg (av 4 (ls [.bool false, .int .u64 0, .int .u64 167772160, .int .u8 8]))) (fun _ => by kernel_rfl) ?_
  refine pl_val (want_no rfl) (some 26) rfl (.int .i64 0) (fun _ => by kernel_rfl) ?_
  refine pl_new M (want_no rfl) (some 6) rfl (.cells (av 4 (ls [.bool false, .int .u64 0, .int .u64 0, .int .u8 0])) 39) (fun _ => by kernel_rfl) ?_
  intro g3 u8 M
  replace M : Mem ⟨w, []⟩ [⟨g1, .cells (av 9 (ls [.bool false, .int .u64 0, .int .u64 167772161, .bool false, .int .u64 0, .int .u64 167772162, .int .u8 17, .int .u8 64, .string ⟨#[97, 98]⟩])) 26⟩, ⟨g2, .cells (av 9 (ls [.bool false, .int .u64 0, .int .u64 167772161, .bool false, .int .u64 0, .int .u64 167772162, .int .u8 17, .int .u8 64, .string ⟨#[97, 98]⟩])) 26⟩, ⟨g3, .cells (av 4 (ls [.bool false, .int .u64 0, .int .u64 0, .int .u8 0])) 39⟩] u8 := M
  refine pl_put M (want_no rfl) rfl 39 _ _ rfl 2 g3 0 (by kernel_rfl) 4 39 (ls [.bool false, .int .u64 0, .int .u64 0, .int .u8 0]) rfl 4 (ls [.bool false, .int .u64 0, .int .u64 167772160, .int .u8 8]) (ls [.bool false, .int .u64 0, .int .u64 167772160, .int .u8 8]) (by kernel_rfl) inz39 (by decide) (one_ls _ rfl) (fun j hj => by rw [if_pos (by omega), Nat.sub_zero]) ?_
  intro u9 M
  replace M : Mem ⟨w, []⟩ [⟨g1, .cells (av 9 (ls [.bool false, .int .u64 0, .int .u64 167772161, .bool false, .int .u64 0, .int .u64 167772162, .int .u8 17, .int .u8 64, .string ⟨#[97, 98]⟩])) 26⟩, ⟨g2, .cells (av 9 (ls [.bool false, .int .u64 0, .int .u64 167772161, .bool false, .int .u64 0, .int .u64 167772162, .int .u8 17, .int .u8 64, .string ⟨#[97, 98]⟩])) 26⟩, ⟨g3, .cells (av 4 (ls [.bool false, .int .u64 0, .int .u64 167772160, .int .u8 8])) 39⟩] u9 := M
  refine pl_val (want_no rfl) (some 7) rfl (.int .i64 0) (fun _ => by kernel_rfl) ?_
  refine pl_nil ?_
  refine au_then ?_
  refine wp_seq ?_
  refine rg_lit ?_
  refine pl_call M (want_no rfl) (some 28) rfl 18 #[.string ⟨#[48, 49, 48, 46, 48, 46, 48, 46, 49]⟩] (.tuple #[.agg (av 3 (ls [.bool false, .int .u64 0, .int .u64 0])), .int .i64 8]) (fun _ => by kernel_rfl) (fun w M => call_val (c_Read ⟨#[48, 49, 48, 46, 48, 46, 48, 46, 49]⟩ w M.laid) (by kernel_rfl)) ?_
  intro u10 M
  refine pl_val (want_no rfl) (some 27) rfl (.tuple #[.agg (av 3 (ls [.bool false, .int .u64 0, .int .u64 0])), .int .i64 8]) (fun _ => by kernel_rfl) ?_
  refine pl_val (want_no rfl) (some 29) rfl (.agg (av 3 (ls [.bool false, .int .u64 0, .int .u64 0]))) (fun _ => by kernel_rfl) ?_
  refine pl_val (want_no rfl) (some 30) rfl (.int .i64 8) (fun _ => by kernel_rfl) ?_
  refine pl_new M (want_no rfl) (some 8) rfl (.cells (av 3 (ls [.bool false, .int .u64 0, .int .u64 0])) 24) (fun _ => by kernel_rfl) ?_
  intro g4 u11 M
  replace M : Mem ⟨w, []⟩ [⟨g1, .cells (av 9 (ls [.bool false, .int .u64 0, .int .u64 167772161, .bool false, .int .u64 0, .int .u64 167772162, .int .u8 17, .int .u8 64, .string ⟨#[97, 98]⟩])) 26⟩, ⟨g2, .cells (av 9 (ls [.bool false, .int .u64 0, .int .u64 167772161, .bool false, .int .u64 0, .int .u64 167772162, .int .u8 17, .int .u8 64, .string ⟨#[97, 98]⟩])) 26⟩, ⟨g3, .cells (av 4 (ls [.bool false, .int .u64 0, .int .u64 167772160, .int .u8 8])) 39⟩, ⟨g4, .cells (av 3 (ls [.bool false, .int .u64 0, .int .u64 0])) 24⟩] u11 := M
  refine pl_put M (want_no rfl) rfl 24 _ _ rfl 3 g4 0 (by kernel_rfl) 3 24 (ls [.bool false, .int .u64 0, .int .u64 0]) rfl 3 (ls [.bool false, .int .u64 0, .int .u64 0]) (ls [.bool false, .int .u64 0, .int .u64 0]) (by kernel_rfl) inz24 (by decide) (one_ls _ rfl) (fun j hj => by rw [if_pos (by omega), Nat.sub_zero]) ?_
  intro u12 M
  replace M : Mem ⟨w, []⟩ [⟨g1, .cells (av 9 (ls [.bool false, .int .u64 0, .int .u64 167772161, .bool false, .int .u64 0, .int .u64 167772162, .int .u8 17, .int .u8 64, .string ⟨#[97, 98]⟩])) 26⟩, ⟨g2, .cells (av 9 (ls [.bool false, .int .u64 0, .int .u64 167772161, .bool false, .int .u64 0, .int .u64 167772162, .int .u8 17, .int .u8 64, .string ⟨#[97, 98]⟩])) 26⟩, ⟨g3, .cells (av 4 (ls [.bool false, .int .u64 0, .int .u64 167772160, .int .u8 8])) 39⟩, ⟨g4, .cells (av 3 (ls [.bool false, .int .u64 0, .int .u64 0])) 24⟩] u12 := M
  refine pl_val (want_no rfl) (some 9) rfl (.int .i64 8) (fun _ => by kernel_rfl) ?_
  refine pl_nil ?_
  refine au_then ?_
  refine wp_seq ?_
  refine rg_lit ?_
  refine pl_val (want_no rfl) (some 31) rfl (.int .i64 0) (fun _ => by kernel_rfl) ?_
  refine pl_val (want_no rfl) (some 32) rfl (.bool true) (fun _ => by kernel_rfl) ?_
  refine pl_val (want_no rfl) (some 33) rfl (.bool true) (fun _ => by kernel_rfl) ?_
  refine pl_val (want_on 2 true rfl 33 rfl (by kernel_rfl)) (some 34) rfl (.string ⟨#[69, 0, 0, 22, 0, 0, 0, 0, 64, 17, 102, 213, 10, 0, 0, 1, 10, 0, 0, 2, 97, 98]⟩) (fun _ => by kernel_rfl) ?_
  refine pl_val (want_on 2 true rfl 33 rfl (by kernel_rfl)) (some 35) rfl (.int .i64 22) (fun _ => by kernel_rfl) ?_
  refine pl_val (want_on 2 true rfl 33 rfl (by kernel_rfl)) (some 36) rfl (.bool true) (fun _ => by kernel_rfl) ?_
  refine pl_val (want_no rfl) (some 37) rfl (.bool true) (fun _ => by kernel_rfl) ?_
  refine pl_val (want_no rfl) (some 38) rfl (.bool true) (fun _ => by kernel_rfl) ?_
  refine pl_val (want_on 7 true rfl 38 rfl (by kernel_rfl)) (some 39) rfl (.string ⟨#[69, 0, 0, 22, 0, 0, 0, 0, 64, 17, 102, 213, 10, 0, 0, 1, 10, 0, 0, 2, 97, 98]⟩) (fun _ => by kernel_rfl) ?_
  refine pl_val (want_on 7 true rfl 38 rfl (by kernel_rfl)) (some 40) rfl (.int .u8 102) (fun w => (run_ixS 9 Tryz.underlying9 _ _ rfl ⟨#[69, 0, 0, 22, 0, 0, 0, 0, 64, 17, 102, 213, 10, 0, 0, 1, 10, 0, 0, 2, 97, 98]⟩ (by kernel_rfl) .i64 10 (by kernel_rfl) (by decide) w).trans (by kernel_rfl)) ?_
  refine pl_val (want_on 7 true rfl 38 rfl (by kernel_rfl)) (some 41) rfl (.bool true) (fun _ => by kernel_rfl) ?_
  refine pl_val (want_no rfl) (some 42) rfl (.bool true) (fun _ => by kernel_rfl) ?_
  refine pl_val (want_no rfl) (some 43) rfl (.bool true) (fun _ => by kernel_rfl) ?_
  refine pl_val (want_on 12 true rfl 43 rfl (by kernel_rfl)) (some 44) rfl (.string ⟨#[69, 0, 0, 22, 0, 0, 0, 0, 64, 17, 102, 213, 10, 0, 0, 1, 10, 0, 0, 2, 97, 98]⟩) (fun _ => by kernel_rfl) ?_
  refine pl_val (want_on 12 true rfl 43 rfl (by kernel_rfl)) (some 45) rfl (.int .u8 213) (fun w => (run_ixS 9 Tryz.underlying9 _ _ rfl ⟨#[69, 0, 0, 22, 0, 0, 0, 0, 64, 17, 102, 213, 10, 0, 0, 1, 10, 0, 0, 2, 97, 98]⟩ (by kernel_rfl) .i64 11 (by kernel_rfl) (by decide) w).trans (by kernel_rfl)) ?_
  refine pl_val (want_on 12 true rfl 43 rfl (by kernel_rfl)) (some 46) rfl (.bool true) (fun _ => by kernel_rfl) ?_
  refine pl_val (want_no rfl) (some 47) rfl (.bool true) (fun _ => by kernel_rfl) ?_
  refine pl_val (want_no rfl) (some 48) rfl (.bool true) (fun _ => by kernel_rfl) ?_
  refine pl_val (want_on 17 true rfl 48 rfl (by kernel_rfl)) (some 49) rfl (.int .i64 0) (fun _ => by kernel_rfl) ?_
  refine pl_val (want_on 17 true rfl 48 rfl (by kernel_rfl)) (some 50) rfl (.bool true) (fun _ => by kernel_rfl) ?_
  refine pl_val (want_no rfl) (some 51) rfl (.bool true) (fun _ => by kernel_rfl) ?_
  refine pl_val (want_no rfl) (some 52) rfl (.bool true) (fun _ => by kernel_rfl) ?_
  refine pl_load M (want_on 21 true rfl 52 rfl (by kernel_rfl)) (some 53) rfl 26 _ rfl 1 g2 0 (by kernel_rfl) 9 26 (ls [.bool false, .int .u64 0, .int .u64 167772161, .bool false, .int .u64 0, .int .u64 167772162, .int .u8 17, .int .u8 64, .string ⟨#[97, 98]⟩]) rfl 9 (ls [.bool false, .int .u64 0, .int .u64 167772161, .bool false, .int .u64 0, .int .u64 167772162, .int .u8 17, .int .u8 64, .string ⟨#[97, 98]⟩]) (fun j _ => by rw [Nat.zero_add]) (by decide) _ Tryz.underlying26 rfl inz26 ?_
  refine pl_load M (want_on 21 true rfl 52 rfl (by kernel_rfl)) (some 54) rfl 26 _ rfl 0 g1 0 (by kernel_rfl) 9 26 (ls [.bool false, .int .u64 0, .int .u64 167772161, .bool false, .int .u64 0, .int .u64 167772162, .int .u8 17, .int .u8 64, .string ⟨#[97, 98]⟩]) rfl 9 (ls [.bool false, .int .u64 0, .int .u64 167772161, .bool false, .int .u64 0, .int .u64 167772162, .int .u8 17, .int .u8 64, .string ⟨#[97, 98]⟩]) (fun j _ => by rw [Nat.zero_add]) (by decide) _ Tryz.underlying26 rfl inz26 ?_
  refine pl_val (want_on 21 true rfl 52 rfl (by kernel_rfl)) (some 55) rfl (.bool true) (fun w => (eql26 false false (0 : Int) (0 : Int) (167772161 : Int) (167772161 : Int) false false (0 : Int) (0 : Int) (167772162 : Int) (167772162 : Int) (17 : Int) (17 : Int) (64 : Int) (64 : Int) (⟨#[97, 98]⟩ : ByteArray) (⟨#[97, 98]⟩ : ByteArray) _ _ rfl (by kernel_rfl) (by kernel_rfl) w).trans (by rw [decide_eq_true (⟨rfl, rfl, rfl, rfl, rfl, rfl, rfl, rfl, rfl⟩ : false = false ∧ (0 : Int) = (0 : Int) ∧ (167772161 : Int) = (167772161 : Int) ∧ false = false ∧ (0 : Int) = (0 : Int) ∧ (167772162 : Int) = (167772162 : Int) ∧ (17 : Int) = (17 : Int) ∧ (64 : Int) = (64 : Int) ∧ (⟨#[97, 98]⟩ : ByteArray) = (⟨#[97, 98]⟩ : ByteArray))])) ?_
  refine pl_val (want_no rfl) (some 56) rfl (.bool true) (fun _ => by kernel_rfl) ?_
  refine pl_val (want_no rfl) (some 57) rfl (.bool true) (fun _ => by kernel_rfl) ?_
  refine pl_val (want_on 26 true rfl 57 rfl (by kernel_rfl)) (some 58) rfl (.int .i64 0) (fun _ => by kernel_rfl) ?_
  refine pl_val (want_on 26 true rfl 57 rfl (by kernel_rfl)) (some 59) rfl (.bool true) (fun _ => by kernel_rfl) ?_
  refine pl_val (want_no rfl) (some 60) rfl (.bool true) (fun _ => by kernel_rfl) ?_
  refine pl_val (want_no rfl) (some 61) rfl (.bool true) (fun _ => by kernel_rfl) ?_
  refine pl_load M (want_on 30 true rfl 61 rfl (by kernel_rfl)) (some 62) rfl 39 _ rfl 2 g3 0 (by kernel_rfl) 4 39 (ls [.bool false, .int .u64 0, .int .u64 167772160, .int .u8 8]) rfl 4 (ls [.bool false, .int .u64 0, .int .u64 167772160, .int .u8 8]) (fun j _ => by rw [Nat.zero_add]) (by decide) _ Tryz.underlying39 rfl inz39 ?_
  refine pl_val (want_on 30 true rfl 61 rfl (by kernel_rfl)) (some 63) rfl (.pointer (some ⟨g1, 0, none⟩)) (fun _ => by kernel_rfl) ?_
  refine pl_load M (want_on 30 true rfl 61 rfl (by kernel_rfl)) (some 64) rfl 24 _ rfl 0 g1 0 (by kernel_rfl) 9 26 (ls [.bool false, .int .u64 0, .int .u64 167772161, .bool false, .int .u64 0, .int .u64 167772162, .int .u8 17, .int .u8 64, .string ⟨#[97, 98]⟩]) rfl 3 (ls [.bool false, .int .u64 0, .int .u64 167772161]) (part_ls _ 0 3 _ rfl) (by decide) _ Tryz.underlying24 rfl inz24 ?_
  refine pl_call M (want_on 30 true rfl 61 rfl (by kernel_rfl)) (some 65) rfl 28 #[.agg (av 4 (ls [.bool false, .int .u64 0, .int .u64 167772160, .int .u8 8])), .agg (av 3 (ls [.bool false, .int .u64 0, .int .u64 167772161]))] (.bool true) (fun _ => by kernel_rfl) (fun w M => call_val (c_Holds false 0 167772160 8 (by decide) (by decide) false 0 167772161 w M.laid) (by kernel_rfl)) ?_
  intro u13 M
  refine pl_val (want_no rfl) (some 66) rfl (.bool true) (fun _ => by kernel_rfl) ?_
  refine pl_val (want_no rfl) (some 67) rfl (.bool true) (fun _ => by kernel_rfl) ?_
  refine pl_val (want_on 36 true rfl 67 rfl (by kernel_rfl)) (some 68) rfl (.int .i64 8) (fun _ => by kernel_rfl) ?_
  refine pl_val (want_on 36 true rfl 67 rfl (by kernel_rfl)) (some 69) rfl (.bool true) (fun _ => by kernel_rfl) ?_
  refine pl_val (want_no rfl) (some 70) rfl (.bool true) (fun _ => by kernel_rfl) ?_
  refine pl_val (want_no rfl) (some 71) rfl (.bool true) (fun _ => by kernel_rfl) ?_
  refine pl_val (want_on 40 true rfl 71 rfl (by kernel_rfl)) (some 72) rfl (.agg (av 3 (ls [.bool true, .int .u64 0, .int .u64 1]))) (fun _ => by kernel_rfl) ?_
  refine pl_call M (want_on 40 true rfl 71 rfl (by kernel_rfl)) (some 73) rfl 22 #[.agg (av 3 (ls [.bool true, .int .u64 0, .int .u64 1]))] (.string ⟨#[58, 58, 49]⟩) (fun _ => by kernel_rfl) (fun w M => call_val (c_Text true 0 1 w M.laid) (by kernel_rfl)) ?_
  intro u14 M
  refine pl_val (want_on 40 true rfl 71 rfl (by kernel_rfl)) (some 74) rfl (.bool true) (fun _ => by kernel_rfl) ?_
  refine pl_val (want_no rfl) (some 75) rfl (.bool true) (fun _ => by kernel_rfl) ?_
  refine pl_val (want_no rfl) (some 0) rfl (.bool true) (fun _ => by kernel_rfl) ?_
  refine pl_nil ?_
  refine au_then ?_
  refine wp_ret ?_
  exact bodyPost_ret (v := .bool true) (results_tmp1 Tryz.results9 _ _ _ (by kernel_rfl)) (by kernel_rfl) ⟨rfl, below_grown M.old⟩


end Go.Proofs.YtndonmdgplojnaaGreatDoor

/- Bytes with their sum behind them: the walk of IpSums. -/
namespace Go.Proofs.YtndonmdgplojnaaGreatDoor
open Go.RowKit

theorem run_remN {P : Program} {a : Act} {o : Oper} (t rt : TypeId) (x y : Operand) (ho : o.op = .binOp .rem t x y rt) (m d : Nat) (hx : a.eval x = .int .i64 (m : Int)) (hy : a.eval y = .int .i64 (d : Int)) (hd : 0 < d) (w : World) :
    (execOp a.eval o).run P w = .ok (.value (.int .i64 ((m % d : Nat) : Int))) w := by
  have h0 : ¬ d = 0 := by omega
  have e : Int.tmod (m : Int) (d : Int) = (m : Int) % (d : Int) := rfl
  unfold execOp
  simp [ho, hx, hy, eqGuard, binOp, Op.intDiv, h0, e]
theorem bt_left (a b : ByteArray) (i : Nat) (h : i < a.size) : bt (a ++ b) i = bt a i := by
  unfold bt
  rw [ByteArray.data_append, Array.getElem?_append_left h]
theorem bt_right (a b : ByteArray) (i : Nat) : bt (a ++ b) (a.size + i) = bt b i := by
  unfold bt
  rw [ByteArray.data_append, Array.getElem?_append_right (show a.data.size ≤ a.size + i from Nat.le_add_right _ _)]
  show ((b.data[a.size + i - a.size]?.getD 0).toNat : Int) = _
  rw [Nat.add_sub_cancel_left]
theorem tt_left (a b : ByteArray) : ∀ j, j ≤ a.size → tt (a ++ b) j = tt a j
  | 0, _ => rfl
  | j + 1, h => by
    unfold tt
    rw [tt_left a b j (by omega), bt_left a b j (by omega)]
theorem tt_right (a b : ByteArray) (ha : a.size % 2 = 0) : ∀ j, tt (a ++ b) (a.size + j) = tot a + tt b j
  | 0 => by
    rw [Nat.add_zero, tt_left a b _ (Nat.le_refl _)]
    show tot a = tot a + 0
    omega
  | j + 1 => by
    show tt (a ++ b) (a.size + j) + (if (a.size + j) % 2 = 0 then 256 * bt (a ++ b) (a.size + j) else bt (a ++ b) (a.size + j)) = tot a + (tt b j + (if j % 2 = 0 then 256 * bt b j else bt b j))
    rw [tt_right a b ha j, bt_right]
    have e : (a.size + j) % 2 = j % 2 := by omega
    rw [e]
    omega
theorem tot_app (a b : ByteArray) (ha : a.size % 2 = 0) : tot (a ++ b) = tot a + tot b := by
  have h := tt_right a b ha b.size
  unfold tot at *
  rw [ByteArray.size_append]
  exact h
theorem tot_nn (a : ByteArray) : 0 ≤ tot a := (tt_nn a _).1
theorem ext_cut (s : ByteArray) (k : Nat) (h : k ≤ s.size) : s.extract 0 k ++ s.extract k s.size = s := by
  apply ByteArray.ext
  rw [ByteArray.data_append, ByteArray.data_extract, ByteArray.data_extract]
  show s.data.extract 0 k ++ s.data.extract k s.data.size = s.data
  have h2 : k ≤ s.data.size := h
  rw [Array.extract_append_extract, Nat.max_eq_right h2]
  simp
/-- The two bytes of a sum. -/
def tl2 (n : Int) : ByteArray := bs [cv .u8 (sr n 8), cv .u8 n]
theorem tl2_size (n : Int) : (tl2 n).size = 2 := by
  unfold tl2
  rw [bs_size]
  rfl
theorem tl2_tot (n : Int) (h0 : 0 ≤ n) (h1 : n ≤ 65535) : tot (tl2 n) = n := by
  unfold tot
  rw [tl2_size]
  have hb : ∀ x ∈ [cv .u8 (sr n 8), cv .u8 n], 0 ≤ x ∧ x < 256 := by
    intro x hx
    simp only [List.mem_cons, List.mem_nil_iff, or_false] at hx
    rcases hx with rfl | rfl <;> exact cv8_nn _
  have e0 : bt (tl2 n) 0 = n / 256 % 256 := by
    unfold tl2
    rw [bt_bs _ hb]
    simp only [List.getD_cons_zero, cv_u8, sr_8]
  have e1 : bt (tl2 n) 1 = n % 256 := by
    unfold tl2
    rw [bt_bs _ hb]
    simp only [List.getD_cons_succ, List.getD_cons_zero, cv_u8]
  show (0 + (if 0 % 2 = 0 then 256 * bt (tl2 n) 0 else bt (tl2 n) 0)) + (if 1 % 2 = 0 then 256 * bt (tl2 n) 1 else bt (tl2 n) 1) = n
  rw [if_pos rfl, if_neg (by decide), e0, e1]
  omega
theorem Fs_top (t : Int) (h : 0 ≤ t) : Fs (t + (65535 - Fs t)) = 65535 := by
  unfold Fs
  by_cases h0 : t = 0
  · subst h0
    decide
  · rw [if_neg h0, if_neg (by omega)]
    omega
theorem sumS_nn (s : ByteArray) : 0 ≤ sumS s ∧ sumS s ≤ 65535 := by
  have := Fs_nn (tot s)
  unfold sumS
  omega
theorem sums_tail (s : ByteArray) (h : s.size % 2 = 0) : sumS (s ++ tl2 (sumS s)) = 0 := by
  have hn := sumS_nn s
  show 65535 - Fs (tot (s ++ tl2 (sumS s))) = 0
  rw [tot_app s _ h, tl2_tot _ hn.1 hn.2]
  have e := Fs_top (tot s) (tot_nn s)
  rw [show tot s + (65535 - Fs (tot s)) = tot s + sumS s from rfl] at e
  omega
theorem sums_head (s : ByteArray) : sumS (tl2 (sumS s) ++ s) = 0 := by
  have hn := sumS_nn s
  show 65535 - Fs (tot (tl2 (sumS s) ++ s)) = 0
  rw [tot_app _ s (by rw [tl2_size]), tl2_tot _ hn.1 hn.2]
  have e := Fs_top (tot s) (tot_nn s)
  rw [show tot s + (65535 - Fs (tot s)) = sumS s + tot s by unfold sumS; omega] at e
  omega
theorem sums_turn (s : ByteArray) (k : Nat) (hk : k ≤ s.size) (h2 : k % 2 = 0) (hs : s.size % 2 = 0) : sumS (s.extract k s.size ++ s.extract 0 k) = sumS s := by
  have e1 : (s.extract 0 k).size = k := by rw [ByteArray.size_extract]; omega
  have e2 : (s.extract k s.size).size = s.size - k := by rw [ByteArray.size_extract]; omega
  have e3 : tot s = tot (s.extract 0 k) + tot (s.extract k s.size) := by
    rw [← tot_app _ _ (by omega), ext_cut s k hk]
  unfold sumS
  rw [tot_app _ _ (by omega), e3, Int.add_comm]
theorem sums_nought (s : ByteArray) (h : s.size % 2 = 0) : sumS (s ++ (⟨#[0, 0]⟩ : ByteArray)) = sumS s := by
  unfold sumS
  rw [tot_app s _ h, show tot (⟨#[0, 0]⟩ : ByteArray) = 0 by decide, Int.add_zero]
set_option maxRecDepth 100000 in
set_option maxHeartbeats 4000000 in
set_option linter.unusedSimpArgs false in
theorem c_sums (s : ByteArray) (b : Int) (hb0 : 0 ≤ b) (hb1 : b ≤ 255) (w : World) (hL : Laid w)  :
    Calls Tryz.prog 8 #[.string s, .int .u8 b] w fun r w' => r = .returned (.bool true) ∧ Below w.heap.size w w' := by
  go_enter Tryz.func8, Tryz.ntmps8
  have M := Mem.start hL
  have n1 : (⟨#[0]⟩ : ByteArray).size = 1 := rfl
  have n2 : (⟨#[0, 0]⟩ : ByteArray).size = 2 := rfl
  refine wp_seq ?_
  refine rg_lit ?_
  refine pl_val (want_no rfl) (some 4) rfl (.bool false) (fun _ => by kernel_rfl) ?_
  refine pl_nil ?_
  refine au_then ?_
  refine wp_seq ?_
  refine wp_seq ?_
  refine rg_lit ?_
  refine pl_val (want_no rfl) (some 9) rfl (.string s) (fun _ => by kernel_rfl) ?_
  refine pl_val (want_no rfl) (some 10) rfl (.int .i64 (s.size : Int)) (fun _ => by kernel_rfl) ?_
  by_cases c0 : 4096 < (s.size : Int)
  · skip
    refine pl_val (want_no rfl) (some 11) rfl (.bool true) (fun w => Eq.trans (b := .ok (.value (.bool (decide (4096 < (s.size : Int))))) w) (by kernel_rfl) (by rw [decide_eq_true (c0)])) ?_
    refine pl_nil ?_
    refine au_then ?_
    refine wp_cond_true (by kernel_rfl) ?_
    refine wp_seq ?_
    refine rg_lit ?_
    refine pl_call M (want_no rfl) (some 12) rfl 9 #[] (.bool true) (fun _ => by kernel_rfl) (fun w M => c_works w M.laid) ?_
    intro u1 M
    refine pl_val (want_no rfl) (some 4) rfl (.bool true) (fun _ => by kernel_rfl) ?_
    refine pl_nil ?_
    refine au_then ?_
    refine wp_ret ?_
    refine au_then_ret ?_
    exact bodyPost_ret (v := .bool true) (results_tmp1 Tryz.results8 _ _ _ (by kernel_rfl)) (by kernel_rfl) ⟨rfl, below_grown M.old⟩
  · skip
    refine pl_val (want_no rfl) (some 11) rfl (.bool false) (fun w => Eq.trans (b := .ok (.value (.bool (decide (4096 < (s.size : Int))))) w) (by kernel_rfl) (by rw [decide_eq_false (c0)])) ?_
    refine pl_nil ?_
    refine au_then ?_
    refine wp_cond_false (by kernel_rfl) ?_
    refine wp_skip ?_
    refine au_then ?_
    refine wp_seq ?_
    refine wp_seq ?_
    refine rg_lit ?_
    refine pl_val (want_no rfl) (some 13) rfl (.string s) (fun _ => by kernel_rfl) ?_
    refine pl_val (want_no rfl) (some 14) rfl (.int .i64 (s.size : Int)) (fun _ => by kernel_rfl) ?_
    refine pl_val (want_no rfl) (some 15) rfl (.int .i64 ((s.size % 2 : Nat) : Int)) (fun w => Eq.trans (b := .ok (.value (.int .i64 (Int.tmod (s.size : Int) 2))) w) (by kernel_rfl) (by rw [Int.tmod_eq_emod_of_nonneg (by omega)]; rfl)) ?_
    by_cases c1 : s.size % 2 = 1
    · skip
      refine pl_val (want_no rfl) (some 16) rfl (.bool true) (fun w => Eq.trans (b := .ok (.value (.bool (decide (((s.size % 2 : Nat) : Int) = 1)))) w) (by kernel_rfl) (by rw [decide_eq_true (by omega)])) ?_
      refine pl_nil ?_
      refine au_then ?_
      refine wp_cond_true (by kernel_rfl) ?_
      refine rg_lit ?_
      refine pl_val (want_no rfl) (some 17) rfl (.string s) (fun _ => by kernel_rfl) ?_
      refine pl_val (want_no rfl) (some 18) rfl (.string (s ++ (⟨#[0]⟩ : ByteArray))) (run_cat 9 9 _ _ rfl s ⟨#[0]⟩ (by kernel_rfl) (by kernel_rfl) (by omega)) ?_
      refine pl_val (want_no rfl) (some 0) rfl (.string (s ++ (⟨#[0]⟩ : ByteArray))) (fun _ => by kernel_rfl) ?_
      refine pl_nil ?_
      refine au_then ?_
      refine wp_seq ?_
      refine rg_lit ?_
      have hZ_ : ((s ++ (⟨#[0]⟩ : ByteArray)) : ByteArray).size ≤ 4097 := by rw [ByteArray.size_append, n1]; omega
      have hT : ((s ++ (⟨#[0]⟩ : ByteArray)) : ByteArray).size % 2 = 0 := by rw [ByteArray.size_append, n1]; omega
      refine pl_val (want_no rfl) (some 19) rfl (.string (s ++ (⟨#[0]⟩ : ByteArray))) (fun _ => by kernel_rfl) ?_
      refine pl_call M (want_no rfl) (some 20) rfl 14 #[.string (s ++ (⟨#[0]⟩ : ByteArray))] (.int .u16 (sumS (s ++ (⟨#[0]⟩ : ByteArray)))) (fun _ => by kernel_rfl) (fun w M => c_Sum (s ++ (⟨#[0]⟩ : ByteArray)) (by have h := hZ_; simp only [ByteArray.size_append, tl2_size, ByteArray.size_extract, n1, n2] at *; omega) w M.laid) ?_
      intro u1 M
      refine pl_val (want_no rfl) (some 5) rfl (.int .u16 (sumS (s ++ (⟨#[0]⟩ : ByteArray)))) (fun _ => by kernel_rfl) ?_
      refine pl_nil ?_
      refine au_then ?_
      refine wp_seq ?_
      refine rg_lit ?_
      refine pl_val (want_no rfl) (some 21) rfl (.int .u16 (sumS (s ++ (⟨#[0]⟩ : ByteArray)))) (fun _ => by kernel_rfl) ?_
      refine pl_val (want_no rfl) (some 22) rfl (.int .u16 (sr (sumS (s ++ (⟨#[0]⟩ : ByteArray))) 8)) (fun _ => by kernel_rfl) ?_
      refine pl_val (want_no rfl) (some 23) rfl (.int .u8 (cv .u8 (sr (sumS (s ++ (⟨#[0]⟩ : ByteArray))) 8))) (fun _ => by kernel_rfl) ?_
      refine pl_val (want_no rfl) (some 24) rfl (.int .u16 (sumS (s ++ (⟨#[0]⟩ : ByteArray)))) (fun _ => by kernel_rfl) ?_
      refine pl_val (want_no rfl) (some 25) rfl (.int .u8 (cv .u8 (sumS (s ++ (⟨#[0]⟩ : ByteArray))))) (fun _ => by kernel_rfl) ?_
      refine pl_mk M (want_no rfl) (some 26) rfl (fun g1 => .slice (some ⟨g1, 0, none⟩) 2 2) (.cells (av 2 (ls [.int .u8 (cv .u8 (sr (sumS (s ++ (⟨#[0]⟩ : ByteArray))) 8)), .int .u8 (cv .u8 (sumS (s ++ (⟨#[0]⟩ : ByteArray))))])) 5) (fun _ => by kernel_rfl) ?_
      intro g1 u2 M
      replace M : Mem ⟨w, []⟩ [⟨g1, .cells (av 2 (ls [.int .u8 (cv .u8 (sr (sumS (s ++ (⟨#[0]⟩ : ByteArray))) 8)), .int .u8 (cv .u8 (sumS (s ++ (⟨#[0]⟩ : ByteArray))))])) 5⟩] u2 := M
      refine pl_back M (want_no rfl) (some 27) rfl _ rfl 0 g1 2 2 (by kernel_rfl) _ rfl [(cv .u8 (sr (sumS (s ++ (⟨#[0]⟩ : ByteArray))) 8)), (cv .u8 (sumS (s ++ (⟨#[0]⟩ : ByteArray))))] 2 (sb_ls [(cv .u8 (sr (sumS (s ++ (⟨#[0]⟩ : ByteArray))) 8)), (cv .u8 (sumS (s ++ (⟨#[0]⟩ : ByteArray))))] _) rfl (by intro x hx; simp only [List.mem_cons, List.mem_nil_iff, or_false] at hx; rcases hx with rfl | rfl <;> exact cv8_nn _) ?_
      refine pl_val (want_no rfl) (some 6) rfl (.string (bs [(cv .u8 (sr (sumS (s ++ (⟨#[0]⟩ : ByteArray))) 8)), (cv .u8 (sumS (s ++ (⟨#[0]⟩ : ByteArray))))])) (fun _ => by kernel_rfl) ?_
      refine pl_nil ?_
      refine au_then ?_
      refine wp_seq ?_
      refine rg_lit ?_
      refine pl_val (want_no rfl) (some 7) rfl (.int .i64 0) (fun _ => by kernel_rfl) ?_
      refine pl_nil ?_
      refine au_then ?_
      refine wp_seq ?_
      refine wp_seq ?_
      refine rg_lit ?_
      refine pl_val (want_no rfl) (some 28) rfl (.string (s ++ (⟨#[0]⟩ : ByteArray))) (fun _ => by kernel_rfl) ?_
      refine pl_val (want_no rfl) (some 29) rfl (.int .i64 ((s ++ (⟨#[0]⟩ : ByteArray)).size : Int)) (fun _ => by kernel_rfl) ?_
      by_cases c2 : 0 < ((s ++ (⟨#[0]⟩ : ByteArray)).size : Int)
      · skip
        refine pl_val (want_no rfl) (some 30) rfl (.bool true) (fun w => Eq.trans (b := .ok (.value (.bool (decide (0 < ((s ++ (⟨#[0]⟩ : ByteArray)).size : Int))))) w) (by kernel_rfl) (by rw [decide_eq_true (c2)])) ?_
        refine pl_nil ?_
        refine au_then ?_
        refine wp_cond_true (by kernel_rfl) ?_
        refine rg_lit ?_
        refine pl_val (want_no rfl) (some 31) rfl (.int .u8 b) (fun _ => by kernel_rfl) ?_
        refine pl_val (want_no rfl) (some 32) rfl (.int .i64 ((b.toNat : Nat) : Int)) (fun w => Eq.trans (b := .ok (.value (.int .i64 (cv .i64 b))) w) (by kernel_rfl) (by rw [cv_i64 (by omega) (by omega)]; congr 3; omega)) ?_
        refine pl_val (want_no rfl) (some 33) rfl (.string (s ++ (⟨#[0]⟩ : ByteArray))) (fun _ => by kernel_rfl) ?_
        refine pl_val (want_no rfl) (some 34) rfl (.int .i64 ((s ++ (⟨#[0]⟩ : ByteArray)).size : Int)) (fun _ => by kernel_rfl) ?_
        refine pl_val (want_no rfl) (some 35) rfl (.int .i64 (((s ++ (⟨#[0]⟩ : ByteArray)).size / 2 : Nat) : Int)) (fun w => Eq.trans (b := .ok (.value (.int .i64 (cv .i64 (Int.tdiv (((s ++ (⟨#[0]⟩ : ByteArray)).size : Nat) : Int) 2)))) w) (by kernel_rfl) (by rw [Int.tdiv_eq_ediv_of_nonneg (by omega), cv_i64 (by omega) (by omega)]; rfl)) ?_
        refine pl_val (want_no rfl) (some 36) rfl (.int .i64 ((b.toNat % ((s ++ (⟨#[0]⟩ : ByteArray)).size / 2) : Nat) : Int)) (run_remN 3 3 _ _ rfl b.toNat ((s ++ (⟨#[0]⟩ : ByteArray)).size / 2) (by kernel_rfl) (by kernel_rfl) (by omega)) ?_
        refine pl_val (want_no rfl) (some 37) rfl (.int .i64 ((b.toNat % ((s ++ (⟨#[0]⟩ : ByteArray)).size / 2) * 2 : Nat) : Int)) (fun w => Eq.trans (b := .ok (.value (.int .i64 (cv .i64 (((b.toNat % ((s ++ (⟨#[0]⟩ : ByteArray)).size / 2) : Nat) : Int) * 2)))) w) (by kernel_rfl) (by have := Nat.mod_lt b.toNat (show (s ++ (⟨#[0]⟩ : ByteArray)).size / 2 > 0 by omega); rw [cv_i64 (by omega) (by omega)]; congr 3)) ?_
        refine pl_val (want_no rfl) (some 7) rfl (.int .i64 ((b.toNat % ((s ++ (⟨#[0]⟩ : ByteArray)).size / 2) * 2 : Nat) : Int)) (fun _ => by kernel_rfl) ?_
        refine pl_nil ?_
        refine au_then ?_
        refine wp_seq ?_
        refine rg_tail M 7 (by kernel_rfl) (by kernel_rfl) ?_
        simp only [List.take_succ_cons, List.take_zero]
        refine k_val (want_no rfl) (some 38) rfl (.string (s ++ (⟨#[0]⟩ : ByteArray))) (fun _ => by kernel_rfl) ?_
        refine k_val (want_no rfl) (some 39) rfl (.int .i64 ((b.toNat % ((s ++ (⟨#[0]⟩ : ByteArray)).size / 2) * 2 : Nat) : Int)) (fun _ => by kernel_rfl) ?_
        refine k_val (want_no rfl) (some 40) rfl (.string ((s ++ (⟨#[0]⟩ : ByteArray)).extract (b.toNat % ((s ++ (⟨#[0]⟩ : ByteArray)).size / 2) * 2) (s ++ (⟨#[0]⟩ : ByteArray)).size)) (run_strl 9 Tryz.underlying9 _ _ rfl (s ++ (⟨#[0]⟩ : ByteArray)) (by kernel_rfl) .i64 (b.toNat % ((s ++ (⟨#[0]⟩ : ByteArray)).size / 2) * 2) (by kernel_rfl) (by have := Nat.mod_lt b.toNat (show (s ++ (⟨#[0]⟩ : ByteArray)).size / 2 > 0 by omega); omega) _ rfl) ?_
        refine k_val (want_no rfl) (some 41) rfl (.string (s ++ (⟨#[0]⟩ : ByteArray))) (fun _ => by kernel_rfl) ?_
        refine k_val (want_no rfl) (some 42) rfl (.int .i64 ((b.toNat % ((s ++ (⟨#[0]⟩ : ByteArray)).size / 2) * 2 : Nat) : Int)) (fun _ => by kernel_rfl) ?_
        refine k_val (want_no rfl) (some 43) rfl (.string ((s ++ (⟨#[0]⟩ : ByteArray)).extract 0 (b.toNat % ((s ++ (⟨#[0]⟩ : ByteArray)).size / 2) * 2))) (run_strh 9 Tryz.underlying9 _ _ rfl (s ++ (⟨#[0]⟩ : ByteArray)) (by kernel_rfl) .i64 (b.toNat % ((s ++ (⟨#[0]⟩ : ByteArray)).size / 2) * 2) (by kernel_rfl) (by have := Nat.mod_lt b.toNat (show (s ++ (⟨#[0]⟩ : ByteArray)).size / 2 > 0 by omega); omega) _ rfl) ?_
        refine k_val (want_no rfl) (some 44) rfl (.string (((s ++ (⟨#[0]⟩ : ByteArray)).extract (b.toNat % ((s ++ (⟨#[0]⟩ : ByteArray)).size / 2) * 2) (s ++ (⟨#[0]⟩ : ByteArray)).size) ++ ((s ++ (⟨#[0]⟩ : ByteArray)).extract 0 (b.toNat % ((s ++ (⟨#[0]⟩ : ByteArray)).size / 2) * 2)))) (run_cat 9 9 _ _ rfl ((s ++ (⟨#[0]⟩ : ByteArray)).extract (b.toNat % ((s ++ (⟨#[0]⟩ : ByteArray)).size / 2) * 2) (s ++ (⟨#[0]⟩ : ByteArray)).size) ((s ++ (⟨#[0]⟩ : ByteArray)).extract 0 (b.toNat % ((s ++ (⟨#[0]⟩ : ByteArray)).size / 2) * 2)) (by kernel_rfl) (by kernel_rfl) (by have h := hZ_; simp only [ByteArray.size_append, tl2_size, ByteArray.size_extract, n1, n2] at *; omega)) ?_
        refine kl_nil ?_
        intro u3 M
        replace M : Mem ⟨w, []⟩ [⟨g1, .cells (av 2 (ls [.int .u8 (cv .u8 (sr (sumS (s ++ (⟨#[0]⟩ : ByteArray))) 8)), .int .u8 (cv .u8 (sumS (s ++ (⟨#[0]⟩ : ByteArray))))])) 5⟩] u3 := M
        refine pl_val (want_no rfl) (some 8) rfl (.string (((s ++ (⟨#[0]⟩ : ByteArray)).extract (b.toNat % ((s ++ (⟨#[0]⟩ : ByteArray)).size / 2) * 2) (s ++ (⟨#[0]⟩ : ByteArray)).size) ++ ((s ++ (⟨#[0]⟩ : ByteArray)).extract 0 (b.toNat % ((s ++ (⟨#[0]⟩ : ByteArray)).size / 2) * 2)))) (fun _ => by kernel_rfl) ?_
        refine pl_nil ?_
        refine au_then ?_
        refine wp_seq ?_
        refine rg_lit ?_
        refine pl_val (want_no rfl) (some 45) rfl (.string (s ++ (⟨#[0]⟩ : ByteArray))) (fun _ => by kernel_rfl) ?_
        refine pl_val (want_no rfl) (some 46) rfl (.string (tl2 (sumS (s ++ (⟨#[0]⟩ : ByteArray))))) (fun _ => by kernel_rfl) ?_
        refine pl_val (want_no rfl) (some 47) rfl (.string ((s ++ (⟨#[0]⟩ : ByteArray)) ++ (tl2 (sumS (s ++ (⟨#[0]⟩ : ByteArray)))))) (run_cat 9 9 _ _ rfl (s ++ (⟨#[0]⟩ : ByteArray)) (tl2 (sumS (s ++ (⟨#[0]⟩ : ByteArray)))) (by kernel_rfl) (by kernel_rfl) (by have h := hZ_; simp only [ByteArray.size_append, tl2_size, ByteArray.size_extract, n1, n2] at *; omega)) ?_
        refine pl_call M (want_no rfl) (some 48) rfl 14 #[.string ((s ++ (⟨#[0]⟩ : ByteArray)) ++ (tl2 (sumS (s ++ (⟨#[0]⟩ : ByteArray)))))] (.int .u16 (sumS ((s ++ (⟨#[0]⟩ : ByteArray)) ++ (tl2 (sumS (s ++ (⟨#[0]⟩ : ByteArray))))))) (fun _ => by kernel_rfl) (fun w M => c_Sum ((s ++ (⟨#[0]⟩ : ByteArray)) ++ (tl2 (sumS (s ++ (⟨#[0]⟩ : ByteArray))))) (by have h := hZ_; simp only [ByteArray.size_append, tl2_size, ByteArray.size_extract, n1, n2] at *; omega) w M.laid) ?_
        intro u4 M
        refine pl_val (want_no rfl) (some 49) rfl (.bool true) (fun w => Eq.trans (b := .ok (.value (.bool (decide ((sumS ((s ++ (⟨#[0]⟩ : ByteArray)) ++ (tl2 (sumS (s ++ (⟨#[0]⟩ : ByteArray)))))) = 0)))) w) (by kernel_rfl) (by rw [decide_eq_true (sums_tail _ hT)])) ?_
        refine pl_val (want_no rfl) (some 50) rfl (.bool true) (fun _ => by kernel_rfl) ?_
        refine pl_val (want_on 5 true rfl 50 rfl (by kernel_rfl)) (some 51) rfl (.string (tl2 (sumS (s ++ (⟨#[0]⟩ : ByteArray))))) (fun _ => by kernel_rfl) ?_
        refine pl_val (want_on 5 true rfl 50 rfl (by kernel_rfl)) (some 52) rfl (.string (s ++ (⟨#[0]⟩ : ByteArray))) (fun _ => by kernel_rfl) ?_
        refine pl_val (want_on 5 true rfl 50 rfl (by kernel_rfl)) (some 53) rfl (.string ((tl2 (sumS (s ++ (⟨#[0]⟩ : ByteArray)))) ++ (s ++ (⟨#[0]⟩ : ByteArray)))) (run_cat 9 9 _ _ rfl (tl2 (sumS (s ++ (⟨#[0]⟩ : ByteArray)))) (s ++ (⟨#[0]⟩ : ByteArray)) (by kernel_rfl) (by kernel_rfl) (by have h := hZ_; simp only [ByteArray.size_append, tl2_size, ByteArray.size_extract, n1, n2] at *; omega)) ?_
        refine pl_call M (want_on 5 true rfl 50 rfl (by kernel_rfl)) (some 54) rfl 14 #[.string ((tl2 (sumS (s ++ (⟨#[0]⟩ : ByteArray)))) ++ (s ++ (⟨#[0]⟩ : ByteArray)))] (.int .u16 (sumS ((tl2 (sumS (s ++ (⟨#[0]⟩ : ByteArray)))) ++ (s ++ (⟨#[0]⟩ : ByteArray))))) (fun _ => by kernel_rfl) (fun w M => c_Sum ((tl2 (sumS (s ++ (⟨#[0]⟩ : ByteArray)))) ++ (s ++ (⟨#[0]⟩ : ByteArray))) (by have h := hZ_; simp only [ByteArray.size_append, tl2_size, ByteArray.size_extract, n1, n2] at *; omega) w M.laid) ?_
        intro u5 M
        refine pl_val (want_on 5 true rfl 50 rfl (by kernel_rfl)) (some 55) rfl (.bool true) (fun w => Eq.trans (b := .ok (.value (.bool (decide ((sumS ((tl2 (sumS (s ++ (⟨#[0]⟩ : ByteArray)))) ++ (s ++ (⟨#[0]⟩ : ByteArray)))) = 0)))) w) (by kernel_rfl) (by rw [decide_eq_true (sums_head _)])) ?_
        refine pl_val (want_no rfl) (some 56) rfl (.bool true) (fun _ => by kernel_rfl) ?_
        refine pl_val (want_no rfl) (some 57) rfl (.bool true) (fun _ => by kernel_rfl) ?_
        refine pl_val (want_on 12 true rfl 57 rfl (by kernel_rfl)) (some 58) rfl (.string (((s ++ (⟨#[0]⟩ : ByteArray)).extract (b.toNat % ((s ++ (⟨#[0]⟩ : ByteArray)).size / 2) * 2) (s ++ (⟨#[0]⟩ : ByteArray)).size) ++ ((s ++ (⟨#[0]⟩ : ByteArray)).extract 0 (b.toNat % ((s ++ (⟨#[0]⟩ : ByteArray)).size / 2) * 2)))) (fun _ => by kernel_rfl) ?_
        refine pl_call M (want_on 12 true rfl 57 rfl (by kernel_rfl)) (some 59) rfl 14 #[.string (((s ++ (⟨#[0]⟩ : ByteArray)).extract (b.toNat % ((s ++ (⟨#[0]⟩ : ByteArray)).size / 2) * 2) (s ++ (⟨#[0]⟩ : ByteArray)).size) ++ ((s ++ (⟨#[0]⟩ : ByteArray)).extract 0 (b.toNat % ((s ++ (⟨#[0]⟩ : ByteArray)).size / 2) * 2)))] (.int .u16 (sumS (((s ++ (⟨#[0]⟩ : ByteArray)).extract (b.toNat % ((s ++ (⟨#[0]⟩ : ByteArray)).size / 2) * 2) (s ++ (⟨#[0]⟩ : ByteArray)).size) ++ ((s ++ (⟨#[0]⟩ : ByteArray)).extract 0 (b.toNat % ((s ++ (⟨#[0]⟩ : ByteArray)).size / 2) * 2))))) (fun _ => by kernel_rfl) (fun w M => c_Sum (((s ++ (⟨#[0]⟩ : ByteArray)).extract (b.toNat % ((s ++ (⟨#[0]⟩ : ByteArray)).size / 2) * 2) (s ++ (⟨#[0]⟩ : ByteArray)).size) ++ ((s ++ (⟨#[0]⟩ : ByteArray)).extract 0 (b.toNat % ((s ++ (⟨#[0]⟩ : ByteArray)).size / 2) * 2))) (by have h := hZ_; simp only [ByteArray.size_append, tl2_size, ByteArray.size_extract, n1, n2] at *; omega) w M.laid) ?_
        intro u6 M
        refine pl_val (want_on 12 true rfl 57 rfl (by kernel_rfl)) (some 60) rfl (.int .u16 (sumS (s ++ (⟨#[0]⟩ : ByteArray)))) (fun _ => by kernel_rfl) ?_
        refine pl_val (want_on 12 true rfl 57 rfl (by kernel_rfl)) (some 61) rfl (.bool true) (fun w => Eq.trans (b := .ok (.value (.bool (decide ((sumS (((s ++ (⟨#[0]⟩ : ByteArray)).extract (b.toNat % ((s ++ (⟨#[0]⟩ : ByteArray)).size / 2) * 2) (s ++ (⟨#[0]⟩ : ByteArray)).size) ++ ((s ++ (⟨#[0]⟩ : ByteArray)).extract 0 (b.toNat % ((s ++ (⟨#[0]⟩ : ByteArray)).size / 2) * 2)))) = (sumS (s ++ (⟨#[0]⟩ : ByteArray))))))) w) (by kernel_rfl) (by rw [decide_eq_true (sums_turn _ _ (by have := Nat.mod_lt b.toNat (show (s ++ (⟨#[0]⟩ : ByteArray)).size / 2 > 0 by omega); omega) (by omega) hT)])) ?_
        refine pl_val (want_no rfl) (some 62) rfl (.bool true) (fun _ => by kernel_rfl) ?_
        refine pl_val (want_no rfl) (some 63) rfl (.bool true) (fun _ => by kernel_rfl) ?_
        refine pl_val (want_on 18 true rfl 63 rfl (by kernel_rfl)) (some 64) rfl (.string (s ++ (⟨#[0]⟩ : ByteArray))) (fun _ => by kernel_rfl) ?_
        refine pl_val (want_on 18 true rfl 63 rfl (by kernel_rfl)) (some 65) rfl (.string ((s ++ (⟨#[0]⟩ : ByteArray)) ++ (⟨#[0, 0]⟩ : ByteArray))) (run_cat 9 9 _ _ rfl (s ++ (⟨#[0]⟩ : ByteArray)) ⟨#[0, 0]⟩ (by kernel_rfl) (by kernel_rfl) (by have h := hZ_; simp only [ByteArray.size_append, tl2_size, ByteArray.size_extract, n1, n2] at *; omega)) ?_
        refine pl_call M (want_on 18 true rfl 63 rfl (by kernel_rfl)) (some 66) rfl 14 #[.string ((s ++ (⟨#[0]⟩ : ByteArray)) ++ (⟨#[0, 0]⟩ : ByteArray))] (.int .u16 (sumS ((s ++ (⟨#[0]⟩ : ByteArray)) ++ (⟨#[0, 0]⟩ : ByteArray)))) (fun _ => by kernel_rfl) (fun w M => c_Sum ((s ++ (⟨#[0]⟩ : ByteArray)) ++ (⟨#[0, 0]⟩ : ByteArray)) (by have h := hZ_; simp only [ByteArray.size_append, tl2_size, ByteArray.size_extract, n1, n2] at *; omega) w M.laid) ?_
        intro u7 M
        refine pl_val (want_on 18 true rfl 63 rfl (by kernel_rfl)) (some 67) rfl (.int .u16 (sumS (s ++ (⟨#[0]⟩ : ByteArray)))) (fun _ => by kernel_rfl) ?_
        refine pl_val (want_on 18 true rfl 63 rfl (by kernel_rfl)) (some 68) rfl (.bool true) (fun w => Eq.trans (b := .ok (.value (.bool (decide ((sumS ((s ++ (⟨#[0]⟩ : ByteArray)) ++ (⟨#[0, 0]⟩ : ByteArray))) = (sumS (s ++ (⟨#[0]⟩ : ByteArray))))))) w) (by kernel_rfl) (by rw [decide_eq_true (sums_nought _ hT)])) ?_
        refine pl_val (want_no rfl) (some 69) rfl (.bool true) (fun _ => by kernel_rfl) ?_
        refine pl_val (want_no rfl) (some 70) rfl (.bool true) (fun _ => by kernel_rfl) ?_
        refine pl_call M (want_on 25 true rfl 70 rfl (by kernel_rfl)) (some 71) rfl 9 #[] (.bool true) (fun _ => by kernel_rfl) (fun w M => c_works w M.laid) ?_
        intro u8 M
        refine pl_val (want_no rfl) (some 72) rfl (.bool true) (fun _ => by kernel_rfl) ?_
        refine pl_val (want_no rfl) (some 4) rfl (.bool true) (fun _ => by kernel_rfl) ?_
        refine pl_nil ?_
        refine au_then ?_
        refine wp_ret ?_
        exact bodyPost_ret (v := .bool true) (results_tmp1 Tryz.results8 _ _ _ (by kernel_rfl)) (by kernel_rfl) ⟨rfl, below_grown M.old⟩
      · skip
        refine pl_val (want_no rfl) (some 30) rfl (.bool false) (fun w => Eq.trans (b := .ok (.value (.bool (decide (0 < ((s ++ (⟨#[0]⟩ : ByteArray)).size : Int))))) w) (by kernel_rfl) (by rw [decide_eq_false (c2)])) ?_
        refine pl_nil ?_
        refine au_then ?_
        refine wp_cond_false (by kernel_rfl) ?_
        refine wp_skip ?_
        refine au_then ?_
        refine wp_seq ?_
        refine rg_tail M 7 (by kernel_rfl) (by kernel_rfl) ?_
        simp only [List.take_succ_cons, List.take_zero]
        refine k_val (want_no rfl) (some 38) rfl (.string (s ++ (⟨#[0]⟩ : ByteArray))) (fun _ => by kernel_rfl) ?_
        refine k_val (want_no rfl) (some 39) rfl (.int .i64 0) (fun _ => by kernel_rfl) ?_
        refine k_val (want_no rfl) (some 40) rfl (.string ((s ++ (⟨#[0]⟩ : ByteArray)).extract 0 (s ++ (⟨#[0]⟩ : ByteArray)).size)) (run_strl 9 Tryz.underlying9 _ _ rfl (s ++ (⟨#[0]⟩ : ByteArray)) (by kernel_rfl) .i64 0 (by kernel_rfl) (by omega) _ rfl) ?_
        refine k_val (want_no rfl) (some 41) rfl (.string (s ++ (⟨#[0]⟩ : ByteArray))) (fun _ => by kernel_rfl) ?_
        refine k_val (want_no rfl) (some 42) rfl (.int .i64 0) (fun _ => by kernel_rfl) ?_
        refine k_val (want_no rfl) (some 43) rfl (.string ((s ++ (⟨#[0]⟩ : ByteArray)).extract 0 0)) (run_strh 9 Tryz.underlying9 _ _ rfl (s ++ (⟨#[0]⟩ : ByteArray)) (by kernel_rfl) .i64 0 (by kernel_rfl) (by omega) _ rfl) ?_
        refine k_val (want_no rfl) (some 44) rfl (.string (((s ++ (⟨#[0]⟩ : ByteArray)).extract 0 (s ++ (⟨#[0]⟩ : ByteArray)).size) ++ ((s ++ (⟨#[0]⟩ : ByteArray)).extract 0 0))) (run_cat 9 9 _ _ rfl ((s ++ (⟨#[0]⟩ : ByteArray)).extract 0 (s ++ (⟨#[0]⟩ : ByteArray)).size) ((s ++ (⟨#[0]⟩ : ByteArray)).extract 0 0) (by kernel_rfl) (by kernel_rfl) (by have h := hZ_; simp only [ByteArray.size_append, tl2_size, ByteArray.size_extract, n1, n2] at *; omega)) ?_
        refine kl_nil ?_
        intro u3 M
        replace M : Mem ⟨w, []⟩ [⟨g1, .cells (av 2 (ls [.int .u8 (cv .u8 (sr (sumS (s ++ (⟨#[0]⟩ : ByteArray))) 8)), .int .u8 (cv .u8 (sumS (s ++ (⟨#[0]⟩ : ByteArray))))])) 5⟩] u3 := M
        refine pl_val (want_no rfl) (some 8) rfl (.string (((s ++ (⟨#[0]⟩ : ByteArray)).extract 0 (s ++ (⟨#[0]⟩ : ByteArray)).size) ++ ((s ++ (⟨#[0]⟩ : ByteArray)).extract 0 0))) (fun _ => by kernel_rfl) ?_
        refine pl_nil ?_
        refine au_then ?_
        refine wp_seq ?_
        refine rg_lit ?_
        refine pl_val (want_no rfl) (some 45) rfl (.string (s ++ (⟨#[0]⟩ : ByteArray))) (fun _ => by kernel_rfl) ?_
        refine pl_val (want_no rfl) (some 46) rfl (.string (tl2 (sumS (s ++ (⟨#[0]⟩ : ByteArray))))) (fun _ => by kernel_rfl) ?_
        refine pl_val (want_no rfl) (some 47) rfl (.string ((s ++ (⟨#[0]⟩ : ByteArray)) ++ (tl2 (sumS (s ++ (⟨#[0]⟩ : ByteArray)))))) (run_cat 9 9 _ _ rfl (s ++ (⟨#[0]⟩ : ByteArray)) (tl2 (sumS (s ++ (⟨#[0]⟩ : ByteArray)))) (by kernel_rfl) (by kernel_rfl) (by have h := hZ_; simp only [ByteArray.size_append, tl2_size, ByteArray.size_extract, n1, n2] at *; omega)) ?_
        refine pl_call M (want_no rfl) (some 48) rfl 14 #[.string ((s ++ (⟨#[0]⟩ : ByteArray)) ++ (tl2 (sumS (s ++ (⟨#[0]⟩ : ByteArray)))))] (.int .u16 (sumS ((s ++ (⟨#[0]⟩ : ByteArray)) ++ (tl2 (sumS (s ++ (⟨#[0]⟩ : ByteArray))))))) (fun _ => by kernel_rfl) (fun w M => c_Sum ((s ++ (⟨#[0]⟩ : ByteArray)) ++ (tl2 (sumS (s ++ (⟨#[0]⟩ : ByteArray))))) (by have h := hZ_; simp only [ByteArray.size_append, tl2_size, ByteArray.size_extract, n1, n2] at *; omega) w M.laid) ?_
        intro u4 M
        refine pl_val (want_no rfl) (some 49) rfl (.bool true) (fun w => Eq.trans (b := .ok (.value (.bool (decide ((sumS ((s ++ (⟨#[0]⟩ : ByteArray)) ++ (tl2 (sumS (s ++ (⟨#[0]⟩ : ByteArray)))))) = 0)))) w) (by kernel_rfl) (by rw [decide_eq_true (sums_tail _ hT)])) ?_
        refine pl_val (want_no rfl) (some 50) rfl (.bool true) (fun _ => by kernel_rfl) ?_
        refine pl_val (want_on 5 true rfl 50 rfl (by kernel_rfl)) (some 51) rfl (.string (tl2 (sumS (s ++ (⟨#[0]⟩ : ByteArray))))) (fun _ => by kernel_rfl) ?_
        refine pl_val (want_on 5 true rfl 50 rfl (by kernel_rfl)) (some 52) rfl (.string (s ++ (⟨#[0]⟩ : ByteArray))) (fun _ => by kernel_rfl) ?_
        refine pl_val (want_on 5 true rfl 50 rfl (by kernel_rfl)) (some 53) rfl (.string ((tl2 (sumS (s ++ (⟨#[0]⟩ : ByteArray)))) ++ (s ++ (⟨#[0]⟩ : ByteArray)))) (run_cat 9 9 _ _ rfl (tl2 (sumS (s ++ (⟨#[0]⟩ : ByteArray)))) (s ++ (⟨#[0]⟩ : ByteArray)) (by kernel_rfl) (by kernel_rfl) (by have h := hZ_; simp only [ByteArray.size_append, tl2_size, ByteArray.size_extract, n1, n2] at *; omega)) ?_
        refine pl_call M (want_on 5 true rfl 50 rfl (by kernel_rfl)) (some 54) rfl 14 #[.string ((tl2 (sumS (s ++ (⟨#[0]⟩ : ByteArray)))) ++ (s ++ (⟨#[0]⟩ : ByteArray)))] (.int .u16 (sumS ((tl2 (sumS (s ++ (⟨#[0]⟩ : ByteArray)))) ++ (s ++ (⟨#[0]⟩ : ByteArray))))) (fun _ => by kernel_rfl) (fun w M => c_Sum ((tl2 (sumS (s ++ (⟨#[0]⟩ : ByteArray)))) ++ (s ++ (⟨#[0]⟩ : ByteArray))) (by have h := hZ_; simp only [ByteArray.size_append, tl2_size, ByteArray.size_extract, n1, n2] at *; omega) w M.laid) ?_
        intro u5 M
        refine pl_val (want_on 5 true rfl 50 rfl (by kernel_rfl)) (some 55) rfl (.bool true) (fun w => Eq.trans (b := .ok (.value (.bool (decide ((sumS ((tl2 (sumS (s ++ (⟨#[0]⟩ : ByteArray)))) ++ (s ++ (⟨#[0]⟩ : ByteArray)))) = 0)))) w) (by kernel_rfl) (by rw [decide_eq_true (sums_head _)])) ?_
        refine pl_val (want_no rfl) (some 56) rfl (.bool true) (fun _ => by kernel_rfl) ?_
        refine pl_val (want_no rfl) (some 57) rfl (.bool true) (fun _ => by kernel_rfl) ?_
        refine pl_val (want_on 12 true rfl 57 rfl (by kernel_rfl)) (some 58) rfl (.string (((s ++ (⟨#[0]⟩ : ByteArray)).extract 0 (s ++ (⟨#[0]⟩ : ByteArray)).size) ++ ((s ++ (⟨#[0]⟩ : ByteArray)).extract 0 0))) (fun _ => by kernel_rfl) ?_
        refine pl_call M (want_on 12 true rfl 57 rfl (by kernel_rfl)) (some 59) rfl 14 #[.string (((s ++ (⟨#[0]⟩ : ByteArray)).extract 0 (s ++ (⟨#[0]⟩ : ByteArray)).size) ++ ((s ++ (⟨#[0]⟩ : ByteArray)).extract 0 0))] (.int .u16 (sumS (((s ++ (⟨#[0]⟩ : ByteArray)).extract 0 (s ++ (⟨#[0]⟩ : ByteArray)).size) ++ ((s ++ (⟨#[0]⟩ : ByteArray)).extract 0 0)))) (fun _ => by kernel_rfl) (fun w M => c_Sum (((s ++ (⟨#[0]⟩ : ByteArray)).extract 0 (s ++ (⟨#[0]⟩ : ByteArray)).size) ++ ((s ++ (⟨#[0]⟩ : ByteArray)).extract 0 0)) (by have h := hZ_; simp only [ByteArray.size_append, tl2_size, ByteArray.size_extract, n1, n2] at *; omega) w M.laid) ?_
        intro u6 M
        refine pl_val (want_on 12 true rfl 57 rfl (by kernel_rfl)) (some 60) rfl (.int .u16 (sumS (s ++ (⟨#[0]⟩ : ByteArray)))) (fun _ => by kernel_rfl) ?_
        refine pl_val (want_on 12 true rfl 57 rfl (by kernel_rfl)) (some 61) rfl (.bool true) (fun w => Eq.trans (b := .ok (.value (.bool (decide ((sumS (((s ++ (⟨#[0]⟩ : ByteArray)).extract 0 (s ++ (⟨#[0]⟩ : ByteArray)).size) ++ ((s ++ (⟨#[0]⟩ : ByteArray)).extract 0 0))) = (sumS (s ++ (⟨#[0]⟩ : ByteArray))))))) w) (by kernel_rfl) (by rw [decide_eq_true (sums_turn _ _ (by omega) (by omega) hT)])) ?_
        refine pl_val (want_no rfl) (some 62) rfl (.bool true) (fun _ => by kernel_rfl) ?_
        refine pl_val (want_no rfl) (some 63) rfl (.bool true) (fun _ => by kernel_rfl) ?_
        refine pl_val (want_on 18 true rfl 63 rfl (by kernel_rfl)) (some 64) rfl (.string (s ++ (⟨#[0]⟩ : ByteArray))) (fun _ => by kernel_rfl) ?_
        refine pl_val (want_on 18 true rfl 63 rfl (by kernel_rfl)) (some 65) rfl (.string ((s ++ (⟨#[0]⟩ : ByteArray)) ++ (⟨#[0, 0]⟩ : ByteArray))) (run_cat 9 9 _ _ rfl (s ++ (⟨#[0]⟩ : ByteArray)) ⟨#[0, 0]⟩ (by kernel_rfl) (by kernel_rfl) (by have h := hZ_; simp only [ByteArray.size_append, tl2_size, ByteArray.size_extract, n1, n2] at *; omega)) ?_
        refine pl_call M (want_on 18 true rfl 63 rfl (by kernel_rfl)) (some 66) rfl 14 #[.string ((s ++ (⟨#[0]⟩ : ByteArray)) ++ (⟨#[0, 0]⟩ : ByteArray))] (.int .u16 (sumS ((s ++ (⟨#[0]⟩ : ByteArray)) ++ (⟨#[0, 0]⟩ : ByteArray)))) (fun _ => by kernel_rfl) (fun w M => c_Sum ((s ++ (⟨#[0]⟩ : ByteArray)) ++ (⟨#[0, 0]⟩ : ByteArray)) (by have h := hZ_; simp only [ByteArray.size_append, tl2_size, ByteArray.size_extract, n1, n2] at *; omega) w M.laid) ?_
        intro u7 M
        refine pl_val (want_on 18 true rfl 63 rfl (by kernel_rfl)) (some 67) rfl (.int .u16 (sumS (s ++ (⟨#[0]⟩ : ByteArray)))) (fun _ => by kernel_rfl) ?_
        refine pl_val (want_on 18 true rfl 63 rfl (by kernel_rfl)) (some 68) rfl (.bool true) (fun w => Eq.trans (b := .ok (.value (.bool (decide ((sumS ((s ++ (⟨#[0]⟩ : ByteArray)) ++ (⟨#[0, 0]⟩ : ByteArray))) = (sumS (s ++ (⟨#[0]⟩ : ByteArray))))))) w) (by kernel_rfl) (by rw [decide_eq_true (sums_nought _ hT)])) ?_
        refine pl_val (want_no rfl) (some 69) rfl (.bool true) (fun _ => by kernel_rfl) ?_
        refine pl_val (want_no rfl) (some 70) rfl (.bool true) (fun _ => by kernel_rfl) ?_
        refine pl_call M (want_on 25 true rfl 70 rfl (by kernel_rfl)) (some 71) rfl 9 #[] (.bool true) (fun _ => by kernel_rfl) (fun w M => c_works w M.laid) ?_
        intro u8 M
        refine pl_val (want_no rfl) (some 72) rfl (.bool true) (fun _ => by kernel_rfl) ?_
        refine pl_val (want_no rfl) (some 4) rfl (.bool true) (fun _ => by kernel_rfl) ?_
        refine pl_nil ?_
        refine au_then ?_
        refine wp_ret ?_
        exact bodyPost_ret (v := .bool true) (results_tmp1 Tryz.results8 _ _ _ (by kernel_rfl)) (by kernel_rfl) ⟨rfl, below_grown M.old⟩
    · skip
      refine pl_val (want_no rfl) (some 16) rfl (.bool false) (fun w => Eq.trans (b := .ok (.value (.bool (decide (((s.size % 2 : Nat) : Int) = 1)))) w) (by kernel_rfl) (by rw [decide_eq_false (by omega)])) ?_
      refine pl_nil ?_
      refine au_then ?_
      refine wp_cond_false (by kernel_rfl) ?_
      refine wp_skip ?_
      refine au_then ?_
      refine wp_seq ?_
      refine rg_lit ?_
      have hZ_ : (s : ByteArray).size ≤ 4097 := by omega
      have hT : (s : ByteArray).size % 2 = 0 := by omega
      refine pl_val (want_no rfl) (some 19) rfl (.string s) (fun _ => by kernel_rfl) ?_
      refine pl_call M (want_no rfl) (some 20) rfl 14 #[.string s] (.int .u16 (sumS s)) (fun _ => by kernel_rfl) (fun w M => c_Sum s (by have h := hZ_; simp only [ByteArray.size_append, tl2_size, ByteArray.size_extract, n1, n2] at *; omega) w M.laid) ?_
      intro u1 M
      refine pl_val (want_no rfl) (some 5) rfl (.int .u16 (sumS s)) (fun _ => by kernel_rfl) ?_
      refine pl_nil ?_
      refine au_then ?_
      refine wp_seq ?_
      refine rg_lit ?_
      refine pl_val (want_no rfl) (some 21) rfl (.int .u16 (sumS s)) (fun _ => by kernel_rfl) ?_
      refine pl_val (want_no rfl) (some 22) rfl (.int .u16 (sr (sumS s) 8)) (fun _ => by kernel_rfl) ?_
      refine pl_val (want_no rfl) (some 23) rfl (.int .u8 (cv .u8 (sr (sumS s) 8))) (fun _ => by kernel_rfl) ?_
      refine pl_val (want_no rfl) (some 24) rfl (.int .u16 (sumS s)) (fun _ => by kernel_rfl) ?_
      refine pl_val (want_no rfl) (some 25) rfl (.int .u8 (cv .u8 (sumS s))) (fun _ => by kernel_rfl) ?_
      refine pl_mk M (want_no rfl) (some 26) rfl (fun g1 => .slice (some ⟨g1, 0, none⟩) 2 2) (.cells (av 2 (ls [.int .u8 (cv .u8 (sr (sumS s) 8)), .int .u8 (cv .u8 (sumS s))])) 5) (fun _ => by kernel_rfl) ?_
      intro g1 u2 M
      replace M : Mem ⟨w, []⟩ [⟨g1, .cells (av 2 (ls [.int .u8 (cv .u8 (sr (sumS s) 8)), .int .u8 (cv .u8 (sumS s))])) 5⟩] u2 := M
      refine pl_back M (want_no rfl) (some 27) rfl _ rfl 0 g1 2 2 (by kernel_rfl) _ rfl [(cv .u8 (sr (sumS s) 8)), (cv .u8 (sumS s))] 2 (sb_ls [(cv .u8 (sr (sumS s) 8)), (cv .u8 (sumS s))] _) rfl (by intro x hx; simp only [List.mem_cons, List.mem_nil_iff, or_false] at hx; rcases hx with rfl | rfl <;> exact cv8_nn _) ?_
      refine pl_val (want_no rfl) (some 6) rfl (.string (bs [(cv .u8 (sr (sumS s) 8)), (cv .u8 (sumS s))])) (fun _ => by kernel_rfl) ?_
      refine pl_nil ?_
      refine au_then ?_
      refine wp_seq ?_
      refine rg_lit ?_
      refine pl_val (want_no rfl) (some 7) rfl (.int .i64 0) (fun _ => by kernel_rfl) ?_
      refine pl_nil ?_
      refine au_then ?_
      refine wp_seq ?_
      refine wp_seq ?_
      refine rg_lit ?_
      refine pl_val (want_no rfl) (some 28) rfl (.string s) (fun _ => by kernel_rfl) ?_
      refine pl_val (want_no rfl) (some 29) rfl (.int .i64 (s.size : Int)) (fun _ => by kernel_rfl) ?_
      by_cases c2 : 0 < (s.size : Int)
      · skip
        refine pl_val (want_no rfl) (some 30) rfl (.bool true) (fun w => Eq.trans (b := .ok (.value (.bool (decide (0 < (s.size : Int))))) w) (by kernel_rfl) (by rw [decide_eq_true (c2)])) ?_
        refine pl_nil ?_
        refine au_then ?_
        refine wp_cond_true (by kernel_rfl) ?_
        refine rg_lit ?_
        refine pl_val (want_no rfl) (some 31) rfl (.int .u8 b) (fun _ => by kernel_rfl) ?_
        refine pl_val (want_no rfl) (some 32) rfl (.int .i64 ((b.toNat : Nat) : Int)) (fun w => Eq.trans (b := .ok (.value (.int .i64 (cv .i64 b))) w) (by kernel_rfl) (by rw [cv_i64 (by omega) (by omega)]; congr 3; omega)) ?_
        refine pl_val (want_no rfl) (some 33) rfl (.string s) (fun _ => by kernel_rfl) ?_
        refine pl_val (want_no rfl) (some 34) rfl (.int .i64 (s.size : Int)) (fun _ => by kernel_rfl) ?_
        refine pl_val (want_no rfl) (some 35) rfl (.int .i64 ((s.size / 2 : Nat) : Int)) (fun w => Eq.trans (b := .ok (.value (.int .i64 (cv .i64 (Int.tdiv ((s.size : Nat) : Int) 2)))) w) (by kernel_rfl) (by rw [Int.tdiv_eq_ediv_of_nonneg (by omega), cv_i64 (by omega) (by omega)]; rfl)) ?_
        refine pl_val (want_no rfl) (some 36) rfl (.int .i64 ((b.toNat % (s.size / 2) : Nat) : Int)) (run_remN 3 3 _ _ rfl b.toNat (s.size / 2) (by kernel_rfl) (by kernel_rfl) (by omega)) ?_
        refine pl_val (want_no rfl) (some 37) rfl (.int .i64 ((b.toNat % (s.size / 2) * 2 : Nat) : Int)) (fun w => Eq.trans (b := .ok (.value (.int .i64 (cv .i64 (((b.toNat % (s.size / 2) : Nat) : Int) * 2)))) w) (by kernel_rfl) (by have := Nat.mod_lt b.toNat (show s.size / 2 > 0 by omega); rw [cv_i64 (by omega) (by omega)]; congr 3)) ?_
        refine pl_val (want_no rfl) (some 7) rfl (.int .i64 ((b.toNat % (s.size / 2) * 2 : Nat) : Int)) (fun _ => by kernel_rfl) ?_
        refine pl_nil ?_
        refine au_then ?_
        refine wp_seq ?_
        refine rg_tail M 7 (by kernel_rfl) (by kernel_rfl) ?_
        simp only [List.take_succ_cons, List.take_zero]
        refine k_val (want_no rfl) (some 38) rfl (.string s) (fun _ => by kernel_rfl) ?_
        refine k_val (want_no rfl) (some 39) rfl (.int .i64 ((b.toNat % (s.size / 2) * 2 : Nat) : Int)) (fun _ => by kernel_rfl) ?_
        refine k_val (want_no rfl) (some 40) rfl (.string (s.extract (b.toNat % (s.size / 2) * 2) s.size)) (run_strl 9 Tryz.underlying9 _ _ rfl s (by kernel_rfl) .i64 (b.toNat % (s.size / 2) * 2) (by kernel_rfl) (by have := Nat.mod_lt b.toNat (show s.size / 2 > 0 by omega); omega) _ rfl) ?_
        refine k_val (want_no rfl) (some 41) rfl (.string s) (fun _ => by kernel_rfl) ?_
        refine k_val (want_no rfl) (some 42) rfl (.int .i64 ((b.toNat % (s.size / 2) * 2 : Nat) : Int)) (fun _ => by kernel_rfl) ?_
        refine k_val (want_no rfl) (some 43) rfl (.string (s.extract 0 (b.toNat % (s.size / 2) * 2))) (run_strh 9 Tryz.underlying9 _ _ rfl s (by kernel_rfl) .i64 (b.toNat % (s.size / 2) * 2) (by kernel_rfl) (by have := Nat.mod_lt b.toNat (show s.size / 2 > 0 by omega); omega) _ rfl) ?_
        refine k_val (want_no rfl) (some 44) rfl (.string ((s.extract (b.toNat % (s.size / 2) * 2) s.size) ++ (s.extract 0 (b.toNat % (s.size / 2) * 2)))) (run_cat 9 9 _ _ rfl (s.extract (b.toNat % (s.size / 2) * 2) s.size) (s.extract 0 (b.toNat % (s.size / 2) * 2)) (by kernel_rfl) (by kernel_rfl) (by have h := hZ_; simp only [ByteArray.size_append, tl2_size, ByteArray.size_extract, n1, n2] at *; omega)) ?_
        refine kl_nil ?_
        intro u3 M
        replace M : Mem ⟨w, []⟩ [⟨g1, .cells (av 2 (ls [.int .u8 (cv .u8 (sr (sumS s) 8)), .int .u8 (cv .u8 (sumS s))])) 5⟩] u3 := M
        refine pl_val (want_no rfl) (some 8) rfl (.string ((s.extract (b.toNat % (s.size / 2) * 2) s.size) ++ (s.extract 0 (b.toNat % (s.size / 2) * 2)))) (fun _ => by kernel_rfl) ?_
        refine pl_nil ?_
        refine au_then ?_
        refine wp_seq ?_
        refine rg_lit ?_
        refine pl_val (want_no rfl) (some 45) rfl (.string s) (fun _ => by kernel_rfl) ?_
        refine pl_val (want_no rfl) (some 46) rfl (.string (tl2 (sumS s))) (fun _ => by kernel_rfl) ?_
        refine pl_val (want_no rfl) (some 47) rfl (.string (s ++ (tl2 (sumS s)))) (run_cat 9 9 _ _ rfl s (tl2 (sumS s)) (by kernel_rfl) (by kernel_rfl) (by have h := hZ_; simp only [ByteArray.size_append, tl2_size, ByteArray.size_extract, n1, n2] at *; omega)) ?_
        refine pl_call M (want_no rfl) (some 48) rfl 14 #[.string (s ++ (tl2 (sumS s)))] (.int .u16 (sumS (s ++ (tl2 (sumS s))))) (fun _ => by kernel_rfl) (fun w M => c_Sum (s ++ (tl2 (sumS s))) (by have h := hZ_; simp only [ByteArray.size_append, tl2_size, ByteArray.size_extract, n1, n2] at *; omega) w M.laid) ?_
        intro u4 M
        refine pl_val (want_no rfl) (some 49) rfl (.bool true) (fun w => Eq.trans (b := .ok (.value (.bool (decide ((sumS (s ++ (tl2 (sumS s)))) = 0)))) w) (by kernel_rfl) (by rw [decide_eq_true (sums_tail _ hT)])) ?_
        refine pl_val (want_no rfl) (some 50) rfl (.bool true) (fun _ => by kernel_rfl) ?_
        refine pl_val (want_on 5 true rfl 50 rfl (by kernel_rfl)) (some 51) rfl (.string (tl2 (sumS s))) (fun _ => by kernel_rfl) ?_
        refine pl_val (want_on 5 true rfl 50 rfl (by kernel_rfl)) (some 52) rfl (.string s) (fun _ => by kernel_rfl) ?_
        refine pl_val (want_on 5 true rfl 50 rfl (by kernel_rfl)) (some 53) rfl (.string ((tl2 (sumS s)) ++ s)) (run_cat 9 9 _ _ rfl (tl2 (sumS s)) s (by kernel_rfl) (by kernel_rfl) (by have h := hZ_; simp only [ByteArray.size_append, tl2_size, ByteArray.size_extract, n1, n2] at *; omega)) ?_
        refine pl_call M (want_on 5 true rfl 50 rfl (by kernel_rfl)) (some 54) rfl 14 #[.string ((tl2 (sumS s)) ++ s)] (.int .u16 (sumS ((tl2 (sumS s)) ++ s))) (fun _ => by kernel_rfl) (fun w M => c_Sum ((tl2 (sumS s)) ++ s) (by have h := hZ_; simp only [ByteArray.size_append, tl2_size, ByteArray.size_extract, n1, n2] at *; omega) w M.laid) ?_
        intro u5 M
        refine pl_val (want_on 5 true rfl 50 rfl (by kernel_rfl)) (some 55) rfl (.bool true) (fun w => Eq.trans (b := .ok (.value (.bool (decide ((sumS ((tl2 (sumS s)) ++ s)) = 0)))) w) (by kernel_rfl) (by rw [decide_eq_true (sums_head _)])) ?_
        refine pl_val (want_no rfl) (some 56) rfl (.bool true) (fun _ => by kernel_rfl) ?_
        refine pl_val (want_no rfl) (some 57) rfl (.bool true) (fun _ => by kernel_rfl) ?_
        refine pl_val (want_on 12 true rfl 57 rfl (by kernel_rfl)) (some 58) rfl (.string ((s.extract (b.toNat % (s.size / 2) * 2) s.size) ++ (s.extract 0 (b.toNat % (s.size / 2) * 2)))) (fun _ => by kernel_rfl) ?_
        refine pl_call M (want_on 12 true rfl 57 rfl (by kernel_rfl)) (some 59) rfl 14 #[.string ((s.extract (b.toNat % (s.size / 2) * 2) s.size) ++ (s.extract 0 (b.toNat % (s.size / 2) * 2)))] (.int .u16 (sumS ((s.extract (b.toNat % (s.size / 2) * 2) s.size) ++ (s.extract 0 (b.toNat % (s.size / 2) * 2))))) (fun _ => by kernel_rfl) (fun w M => c_Sum ((s.extract (b.toNat % (s.size / 2) * 2) s.size) ++ (s.extract 0 (b.toNat % (s.size / 2) * 2))) (by have h := hZ_; simp only [ByteArray.size_append, tl2_size, ByteArray.size_extract, n1, n2] at *; omega) w M.laid) ?_
        intro u6 M
        refine pl_val (want_on 12 true rfl 57 rfl (by kernel_rfl)) (some 60) rfl (.int .u16 (sumS s)) (fun _ => by kernel_rfl) ?_
        refine pl_val (want_on 12 true rfl 57 rfl (by kernel_rfl)) (some 61) rfl (.bool true) (fun w => Eq.trans (b := .ok (.value (.bool (decide ((sumS ((s.extract (b.toNat % (s.size / 2) * 2) s.size) ++ (s.extract 0 (b.toNat % (s.size / 2) * 2)))) = (sumS s))))) w) (by kernel_rfl) (by rw [decide_eq_true (sums_turn _ _ (by have := Nat.mod_lt b.toNat (show s.size / 2 > 0 by omega); omega) (by omega) hT)])) ?_
        refine pl_val (want_no rfl) (some 62) rfl (.bool true) (fun _ => by kernel_rfl) ?_
        refine pl_val (want_no rfl) (some 63) rfl (.bool true) (fun _ => by kernel_rfl) ?_
        refine pl_val (want_on 18 true rfl 63 rfl (by kernel_rfl)) (some 64) rfl (.string s) (fun _ => by kernel_rfl) ?_
        refine pl_val (want_on 18 true rfl 63 rfl (by kernel_rfl)) (some 65) rfl (.string (s ++ (⟨#[0, 0]⟩ : ByteArray))) (run_cat 9 9 _ _ rfl s ⟨#[0, 0]⟩ (by kernel_rfl) (by kernel_rfl) (by have h := hZ_; simp only [ByteArray.size_append, tl2_size, ByteArray.size_extract, n1, n2] at *; omega)) ?_
        refine pl_call M (want_on 18 true rfl 63 rfl (by kernel_rfl)) (some 66) rfl 14 #[.string (s ++ (⟨#[0, 0]⟩ : ByteArray))] (.int .u16 (sumS (s ++ (⟨#[0, 0]⟩ : ByteArray)))) (fun _ => by kernel_rfl) (fun w M => c_Sum (s ++ (⟨#[0, 0]⟩ : ByteArray)) (by have h := hZ_; simp only [ByteArray.size_append, tl2_size, ByteArray.size_extract, n1, n2] at *; omega) w M.laid) ?_
        intro u7 M
        refine pl_val (want_on 18 true rfl 63 rfl (by kernel_rfl)) (some 67) rfl (.int .u16 (sumS s)) (fun _ => by kernel_rfl) ?_
        refine pl_val (want_on 18 true rfl 63 rfl (by kernel_rfl)) (some 68) rfl (.bool true) (fun w => Eq.trans (b := .ok (.value (.bool (decide ((sumS (s ++ (⟨#[0, 0]⟩ : ByteArray))) = (sumS s))))) w) (by kernel_rfl) (by rw [decide_eq_true (sums_nought _ hT)])) ?_
        refine pl_val (want_no rfl) (some 69) rfl (.bool true) (fun _ => by kernel_rfl) ?_
        refine pl_val (want_no rfl) (some 70) rfl (.bool true) (fun _ => by kernel_rfl) ?_
        refine pl_call M (want_on 25 true rfl 70 rfl (by kernel_rfl)) (some 71) rfl 9 #[] (.bool true) (fun _ => by kernel_rfl) (fun w M => c_works w M.laid) ?_
        intro u8 M
        refine pl_val (want_no rfl) (some 72) rfl (.bool true) (fun _ => by kernel_rfl) ?_
        refine pl_val (want_no rfl) (some 4) rfl (.bool true) (fun _ => by kernel_rfl) ?_
        refine pl_nil ?_
        refine au_then ?_
        refine wp_ret ?_
        exact bodyPost_ret (v := .bool true) (results_tmp1 Tryz.results8 _ _ _ (by kernel_rfl)) (by kernel_rfl) ⟨rfl, below_grown M.old⟩
      · skip
        refine pl_val (want_no rfl) (some 30) rfl (.bool false) (fun w => Eq.trans (b := .ok (.value (.bool (decide (0 < (s.size : Int))))) w) (by kernel_rfl) (by rw [decide_eq_false (c2)])) ?_
        refine pl_nil ?_
        refine au_then ?_
        refine wp_cond_false (by kernel_rfl) ?_
        refine wp_skip ?_
        refine au_then ?_
        refine wp_seq ?_
        refine rg_tail M 7 (by kernel_rfl) (by kernel_rfl) ?_
        simp only [List.take_succ_cons, List.take_zero]
        refine k_val (want_no rfl) (some 38) rfl (.string s) (fun _ => by kernel_rfl) ?_
        refine k_val (want_no rfl) (some 39) rfl (.int .i64 0) (fun _ => by kernel_rfl) ?_
        refine k_val (want_no rfl) (some 40) rfl (.string (s.extract 0 s.size)) (run_strl 9 Tryz.underlying9 _ _ rfl s (by kernel_rfl) .i64 0 (by kernel_rfl) (by omega) _ rfl) ?_
        refine k_val (want_no rfl) (some 41) rfl (.string s) (fun _ => by kernel_rfl) ?_
        refine k_val (want_no rfl) (some 42) rfl (.int .i64 0) (fun _ => by kernel_rfl) ?_
        refine k_val (want_no rfl) (some 43) rfl (.string (s.extract 0 0)) (run_strh 9 Tryz.underlying9 _ _ rfl s (by kernel_rfl) .i64 0 (by kernel_rfl) (by omega) _ rfl) ?_
        refine k_val (want_no rfl) (some 44) rfl (.string ((s.extract 0 s.size) ++ (s.extract 0 0))) (run_cat 9 9 _ _ rfl (s.extract 0 s.size) (s.extract 0 0) (by kernel_rfl) (by kernel_rfl) (by have h := hZ_; simp only [ByteArray.size_append, tl2_size, ByteArray.size_extract, n1, n2] at *; omega)) ?_
        refine kl_nil ?_
        intro u3 M
        replace M : Mem ⟨w, []⟩ [⟨g1, .cells (av 2 (ls [.int .u8 (cv .u8 (sr (sumS s) 8)), .int .u8 (cv .u8 (sumS s))])) 5⟩] u3 := M
        refine pl_val (want_no rfl) (some 8) rfl (.string ((s.extract 0 s.size) ++ (s.extract 0 0))) (fun _ => by kernel_rfl) ?_
        refine pl_nil ?_
        refine au_then ?_
        refine wp_seq ?_
        refine rg_lit ?_
        refine pl_val (want_no rfl) (some 45) rfl (.string s) (fun _ => by kernel_rfl) ?_
        refine pl_val (want_no rfl) (some 46) rfl (.string (tl2 (sumS s))) (fun _ => by kernel_rfl) ?_
        refine pl_val (want_no rfl) (some 47) rfl (.string (s ++ (tl2 (sumS s)))) (run_cat 9 9 _ _ rfl s (tl2 (sumS s)) (by kernel_rfl) (by kernel_rfl) (by have h := hZ_; simp only [ByteArray.size_append, tl2_size, ByteArray.size_extract, n1, n2] at *; omega)) ?_
        refine pl_call M (want_no rfl) (some 48) rfl 14 #[.string (s ++ (tl2 (sumS s)))] (.int .u16 (sumS (s ++ (tl2 (sumS s))))) (fun _ => by kernel_rfl) (fun w M => c_Sum (s ++ (tl2 (sumS s))) (by have h := hZ_; simp only [ByteArray.size_append, tl2_size, ByteArray.size_extract, n1, n2] at *; omega) w M.laid) ?_
        intro u4 M
        refine pl_val (want_no rfl) (some 49) rfl (.bool true) (fun w => Eq.trans (b := .ok (.value (.bool (decide ((sumS (s ++ (tl2 (sumS s)))) = 0)))) w) (by kernel_rfl) (by rw [decide_eq_true (sums_tail _ hT)])) ?_
        refine pl_val (want_no rfl) (some 50) rfl (.bool true) (fun _ => by kernel_rfl) ?_
        refine pl_val (want_on 5 true rfl 50 rfl (by kernel_rfl)) (some 51) rfl (.string (tl2 (sumS s))) (fun _ => by kernel_rfl) ?_
        refine pl_val (want_on 5 true rfl 50 rfl (by kernel_rfl)) (some 52) rfl (.string s) (fun _ => by kernel_rfl) ?_
        refine pl_val (want_on 5 true rfl 50 rfl (by kernel_rfl)) (some 53) rfl (.string ((tl2 (sumS s)) ++ s)) (run_cat 9 9 _ _ rfl (tl2 (sumS s)) s (by kernel_rfl) (by kernel_rfl) (by have h := hZ_; simp only [ByteArray.size_append, tl2_size, ByteArray.size_extract, n1, n2] at *; omega)) ?_
        refine pl_call M (want_on 5 true rfl 50 rfl (by kernel_rfl)) (some 54) rfl 14 #[.string ((tl2 (sumS s)) ++ s)] (.int .u16 (sumS ((tl2 (sumS s)) ++ s))) (fun _ => by kernel_rfl) (fun w M => c_Sum ((tl2 (sumS s)) ++ s) (by have h := hZ_; simp only [ByteArray.size_append, tl2_size, ByteArray.size_extract, n1, n2] at *; omega) w M.laid) ?_
        intro u5 M
        refine pl_val (want_on 5 true rfl 50 rfl (by kernel_rfl)) (some 55) rfl (.bool true) (fun w => Eq.trans (b := .ok (.value (.bool (decide ((sumS ((tl2 (sumS s)) ++ s)) = 0)))) w) (by kernel_rfl) (by rw [decide_eq_true (sums_head _)])) ?_
        refine pl_val (want_no rfl) (some 56) rfl (.bool true) (fun _ => by kernel_rfl) ?_
        refine pl_val (want_no rfl) (some 57) rfl (.bool true) (fun _ => by kernel_rfl) ?_
        refine pl_val (want_on 12 true rfl 57 rfl (by kernel_rfl)) (some 58) rfl (.string ((s.extract 0 s.size) ++ (s.extract 0 0))) (fun _ => by kernel_rfl) ?_
        refine pl_call M (want_on 12 true rfl 57 rfl (by kernel_rfl)) (some 59) rfl 14 #[.string ((s.extract 0 s.size) ++ (s.extract 0 0))] (.int .u16 (sumS ((s.extract 0 s.size) ++ (s.extract 0 0)))) (fun _ => by kernel_rfl) (fun w M => c_Sum ((s.extract 0 s.size) ++ (s.extract 0 0)) (by have h := hZ_; simp only [ByteArray.size_append, tl2_size, ByteArray.size_extract, n1, n2] at *; omega) w M.laid) ?_
        intro u6 M
        refine pl_val (want_on 12 true rfl 57 rfl (by kernel_rfl)) (some 60) rfl (.int .u16 (sumS s)) (fun _ => by kernel_rfl) ?_
        refine pl_val (want_on 12 true rfl 57 rfl (by kernel_rfl)) (some 61) rfl (.bool true) (fun w => Eq.trans (b := .ok (.value (.bool (decide ((sumS ((s.extract 0 s.size) ++ (s.extract 0 0))) = (sumS s))))) w) (by kernel_rfl) (by rw [decide_eq_true (sums_turn _ _ (by omega) (by omega) hT)])) ?_
        refine pl_val (want_no rfl) (some 62) rfl (.bool true) (fun _ => by kernel_rfl) ?_
        refine pl_val (want_no rfl) (some 63) rfl (.bool true) (fun _ => by kernel_rfl) ?_
        refine pl_val (want_on 18 true rfl 63 rfl (by kernel_rfl)) (some 64) rfl (.string s) (fun _ => by kernel_rfl) ?_
        refine pl_val (want_on 18 true rfl 63 rfl (by kernel_rfl)) (some 65) rfl (.string (s ++ (⟨#[0, 0]⟩ : ByteArray))) (run_cat 9 9 _ _ rfl s ⟨#[0, 0]⟩ (by kernel_rfl) (by kernel_rfl) (by have h := hZ_; simp only [ByteArray.size_append, tl2_size, ByteArray.size_extract, n1, n2] at *; omega)) ?_
        refine pl_call M (want_on 18 true rfl 63 rfl (by kernel_rfl)) (some 66) rfl 14 #[.string (s ++ (⟨#[0, 0]⟩ : ByteArray))] (.int .u16 (sumS (s ++ (⟨#[0, 0]⟩ : ByteArray)))) (fun _ => by kernel_rfl) (fun w M => c_Sum (s ++ (⟨#[0, 0]⟩ : ByteArray)) (by have h := hZ_; simp only [ByteArray.size_append, tl2_size, ByteArray.size_extract, n1, n2] at *; omega) w M.laid) ?_
        intro u7 M
        refine pl_val (want_on 18 true rfl 63 rfl (by kernel_rfl)) (some 67) rfl (.int .u16 (sumS s)) (fun _ => by kernel_rfl) ?_
        refine pl_val (want_on 18 true rfl 63 rfl (by kernel_rfl)) (some 68) rfl (.bool true) (fun w => Eq.trans (b := .ok (.value (.bool (decide ((sumS (s ++ (⟨#[0, 0]⟩ : ByteArray))) = (sumS s))))) w) (by kernel_rfl) (by rw [decide_eq_true (sums_nought _ hT)])) ?_
        refine pl_val (want_no rfl) (some 69) rfl (.bool true) (fun _ => by kernel_rfl) ?_
        refine pl_val (want_no rfl) (some 70) rfl (.bool true) (fun _ => by kernel_rfl) ?_
        refine pl_call M (want_on 25 true rfl 70 rfl (by kernel_rfl)) (some 71) rfl 9 #[] (.bool true) (fun _ => by kernel_rfl) (fun w M => c_works w M.laid) ?_
        intro u8 M
        refine pl_val (want_no rfl) (some 72) rfl (.bool true) (fun _ => by kernel_rfl) ?_
        refine pl_val (want_no rfl) (some 4) rfl (.bool true) (fun _ => by kernel_rfl) ?_
        refine pl_nil ?_
        refine au_then ?_
        refine wp_ret ?_
        exact bodyPost_ret (v := .bool true) (results_tmp1 Tryz.results8 _ _ _ (by kernel_rfl)) (by kernel_rfl) ⟨rfl, below_grown M.old⟩


end Go.Proofs.YtndonmdgplojnaaGreatDoor

/- The package variables: what the conditions give a walk; a world that meets them; arguments of each type, opened. -/
namespace Go.Proofs.YtndonmdgplojnaaGreatDoor
open Go.RowKit
set_option maxRecDepth 100000

def lay7 : List (String × DataW Unit) := [("math/bits.deBruijn32tab", Rows.laid_math_bits_deBruijn32tab), ("math/bits.deBruijn64tab", Rows.laid_math_bits_deBruijn64tab), ("internal/strconv.uint64pow10", Rows.laid_internal_strconv_uint64pow10), ("unicode/utf8.acceptRanges", Rows.laid_unicode_utf8_acceptRanges), ("strconv.ErrRange", Rows.laid_strconv_ErrRange), ("strconv.ErrSyntax", Rows.laid_strconv_ErrSyntax), ("unicode/utf8.first", Rows.laid_unicode_utf8_first)]
def db64 : List Int := [0, 1, 56, 2, 57, 49, 28, 3, 61, 58, 42, 50, 38, 29, 17, 4, 62, 47, 59, 36, 45, 43, 51, 22, 53, 39, 33, 30, 24, 18, 12, 5, 63, 55, 48, 27, 60, 41, 37, 16, 46, 35, 44, 21, 52, 32, 23, 11, 54, 26, 40, 15, 34, 20, 31, 10, 25, 14, 19, 9, 13, 8, 7, 6]
theorem tab_of {W : World} {name : String} {k : IntKind} {zs : List Int} {g : Nat} {t e : TypeId} {n : Nat} {d : DataW Unit} (hd : d = Lib.tabData k zs) (hg : Tryz.prog.globalNamed name = some g) (hty : (Tryz.prog.globals[g]?).map (·.type) = some t) (ht : Tryz.prog.underlying t = some (.array n e)) (he : Tryz.prog.underlying e = some (.int k)) (hce : Tryz.prog.cellsOf e = 1) (hct : Tryz.prog.cellsOf t = n)
    {g' : Nat} {t' : TypeId} {cs : Array Value} {fuel : Nat} {p : List MemPlace} (hg' : Tryz.prog.globalNamed name = some g') (ht' : (Tryz.prog.globals[g']?).map (·.type) = some t') (hv : W.var? Tryz.prog name = some cs) (h : DataW.trod (fun _ => ()) Tryz.prog W 0 (fun _ => true) false fuel t' cs.toList = some (d, p)) : Lib.TabIs Tryz.prog W name k zs := by
  subst hd
  obtain rfl := Option.some.inj (hg.symm.trans hg')
  obtain rfl := Option.some.inj (hty.symm.trans ht')
  unfold Lib.TabIs
  rw [hv, ← Lib.cells_of_tab ht he hce hct h]
theorem err_of {W : World} {name : String} {g : Nat} {nm : String} {d : DataW Unit} (hg : Tryz.prog.globalNamed name = some g) (hty : (Tryz.prog.globals[g]?).map (·.type) = some 90)
    {g' : Nat} {t' : TypeId} {cs : Array Value} {fuel : Nat} {p : List MemPlace} (hg' : Tryz.prog.globalNamed name = some g') (ht' : (Tryz.prog.globals[g']?).map (·.type) = some t') (hv : W.var? Tryz.prog name = some cs) (h : DataW.trod (fun _ => ()) Tryz.prog W 0 (fun _ => true) false fuel t' cs.toList = some (.iface nm d, p)) : ∃ t p, W.cell? ⟨g, 0, none⟩ = some (.iface t p) := by
  obtain rfl := Option.some.inj (hg.symm.trans hg')
  obtain rfl := Option.some.inj (hty.symm.trans ht')
  obtain ⟨_, u, v, hc, _⟩ := iface_of_trod Tryz.underlying90 h
  refine ⟨u, v, ?_⟩
  rw [World.var?_cell hg hv 0, ← Array.getElem?_toList, hc]
  rfl
theorem var_lt {W : World} {name : String} {g : Nat} {cs : Array Value} (hg : Tryz.prog.globalNamed name = some g) (hv : W.var? Tryz.prog name = some cs) : g < W.heap.size := by
  unfold World.var? at hv
  rw [hg, Option.bind_some] at hv
  by_cases h : g < W.heap.size
  · exact h
  · rw [Array.getElem?_eq_none (by omega)] at hv
    cases hv
theorem laid_of {W : World} (h0 : laidMetH Tryz.prog lay7 W) (hs : W.ShapedOpen Tryz.prog) : Laid W := by
  have h : laidMet Tryz.prog lay7 W := h0
  obtain ⟨ps, ⟨_, _, _, _, _, _, _, _, _, _, ⟨g2, t2, c2, f2, p2, _, hg2, ht2, hv2, hd2, ⟨g3, t3, c3, f3, p3, _, hg3, ht3, hv3, hd3, ⟨_, _, _, _, _, _, _, _, hv4, _, ⟨g5, t5, c5, f5, p5, _, hg5, ht5, hv5, hd5, ⟨g6, t6, c6, f6, p6, _, hg6, ht6, hv6, hd6, _, _⟩, _⟩, _⟩, _⟩, _⟩, _⟩, _⟩ := h
  refine ⟨cell_of_shapedOpen_int hs (g := 0) (t := 3) (zero := #[.int .i64 0]) (by decide) (by kernel_rfl) rfl (by kernel_rfl) (by kernel_rfl) Tryz.underlying3, ?_, ?_, ?_, ?_, ?_⟩
  · exact tab_of (g := 1) (by kernel_rfl) (by kernel_rfl) (by kernel_rfl) Tryz.underlying144 Tryz.underlying22 (by kernel_rfl) (by kernel_rfl) hg3 ht3 hv3 hd3
  · exact err_of (by kernel_rfl) (by kernel_rfl) hg6 ht6 hv6 hd6
  · exact err_of (by kernel_rfl) (by kernel_rfl) hg5 ht5 hv5 hd5
  · have := tab_of (g := 5) (zs := db64) (by kernel_rfl) (by kernel_rfl) (by kernel_rfl) Tryz.underlying166 Tryz.underlying5 (by kernel_rfl) (by kernel_rfl) hg2 ht2 hv2 hd2
    exact this.cell (by kernel_rfl) 15 (by decide)
  · have hg : Tryz.prog.globalNamed "unicode/utf8.acceptRanges" = some 7 := by kernel_rfl
    have := var_lt hg hv4
    omega
theorem lay_witness (os : Os) (args : Array Value) : laidMetH Tryz.prog lay7 ((World.laidAll Tryz.prog os lay7).forCall (fun _ _ => 0) ⟨#[], args, []⟩).memory := laidMet_laidAll (laid := lay7) args (by kernel_rfl) (by kernel_rfl)
/-- What the shape and the listed variables give a contract. -/
theorem handed_laid {H : Type} {enc : TypeId × Value → H} {os : Os} {f : FuncId} {fn : Func} {s : ChangeSpec} {conds : List PathCond} (own : ownKnob Tryz.prog.godebug = none) (started : os.Started) (noInit : Tryz.prog.inits.idxOf? f = none) (hfn : Tryz.prog.funcs[f]? = some fn)
    (wit : ∃ (w : World) (tape : Tape) (i : Input), w.os = os ∧ (w.forCall tape i).Shaped Tryz.checked.prog ∧ i.vars = [] ∧ Input.okWide Tryz.checked.prog (w.forCall tape i) .any w.heap.size f i ∧ ((s.pre enc Tryz.checked.prog fn conds false (w.forCall tape i).memory i.args ∧ laidMetH Tryz.checked.prog lay7 (w.forCall tape i).memory) ∧ sizedMet enc Tryz.checked.prog fn (OpenSpec.ofChange s) false (w.forCall tape i).memory i.args) ∧ ({} : Assume).holds Tryz.checked.prog (lone (Frame.enter Tryz.checked.prog f i.args .normal) [] (w.forCall tape i)))
    (contract : ∀ (W : World) (base : Nat) (args : Array Value) (ds gs : List (DataW H)) (before : List MemPlace), (∀ (j : Nat) t v, fn.params[j]? = some t → args[j]? = some v → Value.okWide Tryz.prog W .any base t v) → DataW.Whole enc Tryz.prog fn.params.toList s.vars false W args.toList ds gs before → Laid W →
      Calls Tryz.prog f args W fun e W' => ∃ v, e = .returned v ∧ s.post enc Tryz.prog fn false true false false W args v W') :
    ReturnsInHanded {} Tryz.checked os f .any (fun w args => (s.pre enc Tryz.checked.prog fn conds false w args ∧ laidMetH Tryz.checked.prog lay7 w) ∧ sizedMet enc Tryz.checked.prog fn (OpenSpec.ofChange s) false w args) (s.post enc Tryz.checked.prog fn false true false false) := by
  refine returnsInHanded_of_calls own started noInit wit fun w tape i _ hsh _ hok hpre _ => ?_
  obtain ⟨_, _, _, fn2, hfn2, _, _, _, _, hval⟩ := hok
  obtain rfl : fn2 = fn := Option.some.inj (hfn2.symm.trans hfn)
  obtain ⟨⟨⟨ds, gs, before, hw, _⟩, hx⟩, _⟩ := hpre
  have hx2 : laidMetH Tryz.prog lay7 (w.forCall tape i) := laidMetH.of_heap (by rfl) hx
  have hl : Laid (w.forCall tape i) := laid_of hx2 hsh
  have hw' := DataW.Whole.of_heap (w' := w.forCall tape i) (by rfl) hw
  refine (contract (w.forCall tape i) w.heap.size i.args ds gs before hval hw' hl).mono fun e W' ⟨v, he, hp⟩ => ?_
  subst he
  exact ChangeSpec.post_blind hp
theorem laidOut : laidOutB Tryz.prog = true := by kernel_rfl
theorem ownNone : ownKnob Tryz.prog.godebug = none := by kernel_rfl
section
variable {W : World} {b0 : Nat} {v : Value}
theorem cell_u8 (h : Cell.okWide Tryz.prog W .any b0 5 v) : ∃ n, v = .int .u8 n ∧ 0 ≤ n ∧ n < 256 := by
  simp only [Cell.okWide, Tryz.underlying5] at h
  cases v <;> simp_all [Cell.ok, Tryz.underlying5]
  rename_i k n
  obtain ⟨rfl, h1, h2⟩ := h
  simp [IntKind.min, IntKind.max, IntKind.bits, IntKind.signed] at h1 h2
  exact ⟨h1, by omega⟩
theorem cell_str (h : Cell.okWide Tryz.prog W .any b0 9 v) : ∃ s, v = .string s := by
  simp only [Cell.okWide, Tryz.underlying9] at h
  cases v <;> simp_all [Cell.ok, Tryz.underlying9]
theorem op9 (h : Value.okWide Tryz.prog W .any b0 9 v) : ∃ s, v = .string s := by
  simp only [Value.okWide, Tryz.underlying9] at h
  exact cell_str h
theorem op5 (h : Value.okWide Tryz.prog W .any b0 5 v) : ∃ n, v = .int .u8 n ∧ 0 ≤ n ∧ n < 256 := by
  simp only [Value.okWide, Tryz.underlying5] at h
  exact cell_u8 h
end
end Go.Proofs.YtndonmdgplojnaaGreatDoor
