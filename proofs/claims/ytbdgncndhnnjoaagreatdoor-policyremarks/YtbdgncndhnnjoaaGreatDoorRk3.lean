/- Part 3 of the walks and facts. -/
import Derived.Test.YtbdgncndhnnjoaaGreatDoorRk2
import Derived.Below
import Derived.KernelRfl
import Derived.Shelf.Slices.CompactS
import Derived.Shelf.Sort.Plain
namespace Go.Proofs.YtbdgncndhnnjoaaGreatDoor.Ip
set_option linter.unusedSimpArgs false
open Go.RowKit
def v16 (l : List Int) : List Value := l.map fun x => .int .u16 x
def tgi (l : List Int) (i : Nat) : Int := l.getD i 0
theorem v16_at (l : List Int) (i : Nat) (h : i < l.length) : (v16 l)[i]? = some (.int .u16 (tgi l i)) := by
 unfold v16 tgi
 simp [h]
theorem v16_len (l : List Int) : (v16 l).length = l.length := by simp [v16]
theorem v16_app (l : List Int) (x : Int) : v16 (l ++ [x]) = v16 l ++ [.int .u16 x] := by simp [v16]
def nl (b m : Int) (ps : List ByteArray) : Nat → Option (List Int)
 | 0 => some []
 | j + 1 => (nl b m ps j).bind fun l => (nmb b m (tg ps j)).map fun x => l ++ [x]
def nlv (b m : Int) (ps : List ByteArray) (j : Nat) : List Int := (nl b m ps j).getD []
def nbs (b m : Int) (s sep : ByteArray) : Option (List Int) := if s = (⟨#[]⟩ : ByteArray) then some [] else nl b m (spl s sep) (spl s sep).length
theorem nl_none {b m : Int} {ps : List ByteArray} {j : Nat} (h : nl b m ps j = none) (k : Nat) : nl b m ps (j + k) = none := by
 induction k with
 | zero => exact h
 | succ k ih =>
  show nl b m ps (j + k + 1) = none
  unfold nl
  rw [ih]
  rfl
theorem nl_bad {b m : Int} {s sep : ByteArray} {j : Nat} {l : List Int} (hs : ¬ s = (⟨#[]⟩ : ByteArray)) (hj : j < (spl s sep).length) (h : nl b m (spl s sep) j = some l) (hn : (nmb b m (tg (spl s sep) j)).isSome = false) : nbs b m s sep = none := by
 unfold nbs
 rw [if_neg hs]
 obtain ⟨k, hk⟩ : ∃ k, (spl s sep).length = j + 1 + k := ⟨(spl s sep).length - (j + 1), by omega⟩
 rw [hk]
 refine nl_none ?_ k
 unfold nl
 rw [h]
 cases hq : nmb b m (tg (spl s sep) j) with
 | none => simp
 | some x => rw [hq] at hn; cases hn
theorem nl_ok {b m : Int} {ps : List ByteArray} {j : Nat} {l : List Int} (h : nl b m ps j = some l) (hn : (nmb b m (tg ps j)).isSome = true) : nl b m ps (j + 1) = some (l ++ [(nmb b m (tg ps j)).getD 0]) := by
 unfold nl
 rw [h]
 cases hq : nmb b m (tg ps j) with
 | none => rw [hq] at hn; cases hn
 | some x => simp
def TS (c : Ctx) (L : List Blk) (W : World) (tv : Value) (l : List Int) : Prop := (l = [] ∧ tv = .slice none 0 0 ∧ Mem c L W) ∨ ∃ g cap Z, tv = .slice (some ⟨g, 0, none⟩) l.length cap ∧ SB Z cap (v16 l) ∧ Mem c (L ++ [⟨g, Z⟩]) W
def NumsPost (o : Option (List Int)) (w : World) (r : Ending) (w' : World) : Prop := (o = none ∧ r = .returned (.tuple #[.slice none 0 0, .bool false]) ∧ Below w.heap.size w w') ∨ ∃ l, o = some l ∧ ((l = [] ∧ r = .returned (.tuple #[.slice none 0 0, .bool true]) ∧ Below w.heap.size w w') ∨ (l ≠ [] ∧ ∃ g cap Z, r = .returned (.tuple #[.slice (some ⟨g, 0, none⟩) l.length cap, .bool true]) ∧ w.heap.size ≤ g ∧ w'.heap[g]? = some Z ∧ SB Z cap (v16 l) ∧ Below w.heap.size w w'))
theorem nl_len {b m : Int} {ps : List ByteArray} {j : Nat} {l : List Int} (h : nl b m ps j = some l) : l.length = j := by
 induction j generalizing l with
 | zero => cases h; rfl
 | succ j ih =>
  unfold nl at h
  cases hq : nl b m ps j with
  | none => rw [hq] at h; cases h
  | some l' =>
   rw [hq] at h
   simp only [Option.bind_some, Option.map_eq_some_iff] at h
   obtain ⟨x, _, rfl⟩ := h
   rw [List.length_append, ih hq]
   rfl
set_option maxRecDepth 100000 in
set_option maxHeartbeats 4000000 in
set_option linter.unusedSimpArgs false in
theorem c_nums10 (s sep : ByteArray) (hs : s.size ≤ 1000) (h1 : 1 ≤ sep.size) (w : World) (hL : Laid w)  :
  Calls Tryz.prog 218 #[.string s, .string sep, .int .i64 10, .int .i64 8] w fun r w' => NumsPost (nbs 10 255 s sep) w r w' := by
 go_enter Tryz.func218, Tryz.ntmps218
 have M := Mem.start hL
 have hsl := spl_le s sep h1
 have hlen : ∀ l : List Int, ∀ {j : Nat}, nl 10 255 (spl s sep) j = some l → j < (spl s sep).length → l.length < 1000000 := fun l j h hj => by have := nl_len h; omega
 refine wp_seq ?_
 refine rg_lit ?_
 refine pl_val (want_no rfl) (some 8) rfl (.slice none 0 0) (fun _ => by kernel_rfl) ?_
 refine pl_val (want_no rfl) (some 9) rfl (.bool false) (fun _ => by kernel_rfl) ?_
 refine pl_nil ?_
 refine au_then ?_
 refine wp_seq ?_
 refine wp_seq ?_
 refine rg_lit ?_
 refine pl_val (want_no rfl) (some 15) rfl (.string s) (fun _ => by kernel_rfl) ?_
 by_cases c0 : s = (⟨#[]⟩ : ByteArray)
 ·skip
  refine pl_val (want_no rfl) (some 16) rfl (.bool true) (fun w => Eq.trans (b := .ok (.value (.bool (s.toList == (⟨#[]⟩ : ByteArray).toList))) w) (by kernel_rfl) (by rw [seq_pos c0])) ?_
  refine pl_nil ?_
  refine au_then ?_
  refine wp_cond_true (by kernel_rfl) ?_
  refine wp_seq ?_
  refine rg_lit ?_
  refine pl_val (want_no rfl) (some 8) rfl (.slice none 0 0) (fun _ => by kernel_rfl) ?_
  refine pl_val (want_no rfl) (some 9) rfl (.bool true) (fun _ => by kernel_rfl) ?_
  refine pl_nil ?_
  refine au_then ?_
  refine wp_ret ?_
  refine au_then_ret ?_
  exact bodyPost_ret (v := .tuple #[.slice none 0 0, .bool true]) (results_tmp2 Tryz.results218 _ _ _ _ (by kernel_rfl) (by kernel_rfl)) (by kernel_rfl) (.inr ⟨[], if_pos c0, .inl ⟨rfl, rfl, below_grown M.old⟩⟩)
 ·skip
  refine pl_val (want_no rfl) (some 16) rfl (.bool false) (fun w => Eq.trans (b := .ok (.value (.bool (s.toList == (⟨#[]⟩ : ByteArray).toList))) w) (by kernel_rfl) (by rw [seq_neg c0])) ?_
  refine pl_nil ?_
  refine au_then ?_
  refine wp_cond_false (by kernel_rfl) ?_
  refine wp_skip ?_
  refine au_then ?_
  refine wp_seq ?_
  refine rg_lit ?_
  refine pl_val (want_no rfl) (some 10) rfl (.slice none 0 0) (fun _ => by kernel_rfl) ?_
  refine pl_nil ?_
  refine au_then ?_
  refine wp_seq ?_
  refine wp_seq ?_
  refine rg_lit ?_
  refine pl_val (want_no rfl) (some 17) rfl (.string s) (fun _ => by kernel_rfl) ?_
  refine pl_val (want_no rfl) (some 18) rfl (.string sep) (fun _ => by kernel_rfl) ?_
  refine pl_calln M (want_no rfl) (some 19) rfl 62 #[.string s, .string sep] (fun g1 => .slice (some ⟨g1, 0, none⟩) (spl s sep).length (spl s sep).length) (.cells (av (spl s sep).length (fS (spl s sep))) 9) (fun _ => by kernel_rfl) (fun w M => c_Split s sep (by omega) h1 w M.laid) ?_
  intro g1 u1 M
  replace M : Mem ⟨w, []⟩ [⟨g1, .cells (av (spl s sep).length (fS (spl s sep))) 9⟩] u1 := M
  refine pl_val (want_no rfl) (some 20) rfl (.int .i64 (((spl s sep).length : Nat) : Int)) (fun _ => by kernel_rfl) ?_
  refine pl_val (want_no rfl) (some 21) rfl (.int .i64 0) (fun _ => by kernel_rfl) ?_
  refine pl_nil ?_
  refine au_then ?_
  refine wp_block ?_
  refine au_loop (fun j a w' => ∃ (v1 : Nat → Value) (tv : Value), a = ⟨#[.string s, .string sep, .int .i64 10, .int .i64 8, undef, undef, undef, undef, v1 8, v1 9, tv, undef, v1 12, v1 13, v1 14, .string s, .bool false, .string s, .string sep, .slice (some ⟨g1, 0, none⟩) (spl s sep).length (spl s sep).length, .int .i64 (((spl s sep).length : Nat) : Int), .int .i64 (j : Int), v1 22, v1 23, v1 24, v1 25, v1 26, v1 27, v1 28, v1 29, v1 30, v1 31, v1 32, v1 33, v1 34, v1 35, v1 36, v1 37, v1 38, undef], []⟩ ∧ nl 10 255 (spl s sep) j = some (nlv 10 255 (spl s sep) j) ∧ TS ⟨w, []⟩ [⟨g1, .cells (av (spl s sep).length (fS (spl s sep))) 9⟩] w' tv (nlv 10 255 (spl s sep) j)) (spl s sep).length ⟨fun k_ => ([.slice none 0 0, .bool false, undef, undef, undef, undef, undef, undef, undef, undef, undef, undef, undef, undef, undef, undef, undef, undef, undef, undef, undef, undef, undef, undef, undef, undef, undef, undef, undef, undef, undef] : List Value).getD (k_ - 8) undef, _, by kernel_rfl, rfl, .inl ⟨rfl, rfl, M⟩⟩ ?_ ?_
  ·intro j a u0 hj hI
   obtain ⟨v1, tv, rfl, hx, hT⟩ := hI
   rcases hT with ⟨hnil, rfl, M⟩ | ⟨g9, cap9, Z9, rfl, hZ9, M⟩
   ·skip
    refine wp_seq ?_
    refine rg_lit ?_
    refine pl_val (want_no rfl) (some 22) rfl (.bool true) (fun w => Eq.trans (b := .ok (.value (.bool (decide ((j : Int) < (((spl s sep).length : Nat) : Int))))) w) (by kernel_rfl) (by rw [decide_eq_true (by omega)])) ?_
    refine pl_nil ?_
    refine au_then ?_
    refine wp_seq ?_
    refine wp_cond_true (by kernel_rfl) ?_
    refine wp_skip ?_
    refine au_then ?_
    refine wp_seq ?_
    refine wp_block ?_
    refine wp_seq ?_
    refine rg_lit ?_
    refine pl_val (want_no rfl) (some 23) rfl (.pointer (some ⟨g1, j, none⟩)) (run_ix0 44 9 Tryz.underlying44 inz9 _ _ rfl g1 ((spl s sep).length) ((spl s sep).length) (by kernel_rfl) .i64 j (by kernel_rfl) (by omega)) ?_
    refine pl_cell M (want_no rfl) (some 24) rfl 9 _ rfl g1 j (by kernel_rfl) (.string (tg (spl s sep) j)) (fun _ => by kernel_rfl) (fun w M => M.cell 0 rfl (by omega) rfl) ?_
    refine pl_val (want_no rfl) (some 12) rfl (.string (tg (spl s sep) j)) (fun _ => by kernel_rfl) ?_
    refine pl_nil ?_
    refine au_then ?_
    refine wp_seq ?_
    refine rg_lit ?_
    refine pl_val (want_no rfl) (some 26) rfl (.string (tg (spl s sep) j)) (fun _ => by kernel_rfl) ?_
    refine pl_val (want_no rfl) (some 27) rfl (.int .i64 10) (fun _ => by kernel_rfl) ?_
    refine pl_val (want_no rfl) (some 28) rfl (.int .i64 8) (fun _ => by kernel_rfl) ?_
    rcases Bool.eq_false_or_eq_true ((nmb 10 255 (tg (spl s sep) j)).isSome) with c2 | c2
    ·skip
     refine pl_call M (want_no rfl) (some 29) rfl 165 #[.string (tg (spl s sep) j), .int .i64 10, .int .i64 8] (.tuple #[.int .u16 ((nmb 10 255 (tg (spl s sep) j)).getD 0), .bool true]) (fun _ => by kernel_rfl) (fun w M => call_val (c_number10 (tg (spl s sep) j) w M.laid) (by rw [c2])) ?_
     intro u2 M
     refine pl_val (want_no rfl) (some 25) rfl (.tuple #[.int .u16 ((nmb 10 255 (tg (spl s sep) j)).getD 0), .bool true]) (fun _ => by kernel_rfl) ?_
     refine pl_val (want_no rfl) (some 30) rfl (.int .u16 ((nmb 10 255 (tg (spl s sep) j)).getD 0)) (fun _ => by kernel_rfl) ?_
     refine pl_val (want_no rfl) (some 31) rfl (.bool true) (fun _ => by kernel_rfl) ?_
     refine pl_val (want_no rfl) (some 13) rfl (.int .u16 ((nmb 10 255 (tg (spl s sep) j)).getD 0)) (fun _ => by kernel_rfl) ?_
     refine pl_val (want_no rfl) (some 14) rfl (.bool true) (fun _ => by kernel_rfl) ?_
     refine pl_nil ?_
     refine au_then ?_
     refine wp_seq ?_
     refine wp_seq ?_
     refine rg_lit ?_
     refine pl_val (want_no rfl) (some 32) rfl (.bool true) (fun _ => by kernel_rfl) ?_
     refine pl_val (want_no rfl) (some 33) rfl (.bool false) (fun _ => by kernel_rfl) ?_
     refine pl_nil ?_
     refine au_then ?_
     refine wp_cond_false (by kernel_rfl) ?_
     refine wp_skip ?_
     refine au_then ?_
     refine rg_lit ?_
     refine pl_val (want_no rfl) (some 34) rfl (.slice none 0 0) (fun _ => by kernel_rfl) ?_
     refine pl_val (want_no rfl) (some 35) rfl (.int .u16 ((nmb 10 255 (tg (spl s sep) j)).getD 0)) (fun _ => by kernel_rfl) ?_
     refine pl_mk M (want_no rfl) (some 36) rfl (fun g2 => .slice (some ⟨g2, 0, none⟩) 1 1) (.cells (av 1 (fun _ => .int .u16 ((nmb 10 255 (tg (spl s sep) j)).getD 0))) 101) (fun _ => by kernel_rfl) ?_
     intro g2 u3 M
     replace M : Mem ⟨w, []⟩ [⟨g1, .cells (av (spl s sep).length (fS (spl s sep))) 9⟩, ⟨g2, .cells (av 1 (fun _ => .int .u16 ((nmb 10 255 (tg (spl s sep) j)).getD 0))) 101⟩] u3 := M
     refine pl_app0I M (want_no rfl) (some 37) rfl 193 193 101 (.int .u16 0) Tryz.underlying193 info32 rfl 1 g2 101 (.int .u16 ((nmb 10 255 (tg (spl s sep) j)).getD 0)) rfl (fun _ => by kernel_rfl) ?_
     intro g8 cap8 Z8 u4 hZ8 M
     replace M : Mem ⟨w, []⟩ [⟨g1, .cells (av (spl s sep).length (fS (spl s sep))) 9⟩, ⟨g2, .cells (av 1 (fun _ => .int .u16 ((nmb 10 255 (tg (spl s sep) j)).getD 0))) 101⟩, ⟨g8, Z8⟩] u4 := M
     refine pl_val (want_no rfl) (some 10) rfl (.slice (some ⟨g8, 0, none⟩) 1 cap8) (fun _ => by kernel_rfl) ?_
     refine pl_nil ?_
     refine au_block ?_
     refine au_then ?_
     refine rg_lit ?_
     refine pl_val (want_no rfl) (some 38) rfl (.int .i64 ((j + 1 : Nat) : Int)) (fun w => Eq.trans (b := .ok (.value (.int .i64 (IntKind.wrap .i64 ((j : Int) + 1)))) w) (by kernel_rfl) (by rw [wrap64 (by omega) (by omega)]; congr 3)) ?_
     refine pl_val (want_no rfl) (some 21) rfl (.int .i64 ((j + 1 : Nat) : Int)) (fun _ => by kernel_rfl) ?_
     refine pl_nil ?_
     refine au_then ?_
     have hy := nl_ok hx c2
     have hz : nlv 10 255 (spl s sep) (j + 1) = (nlv 10 255 (spl s sep) j) ++ [(nmb 10 255 (tg (spl s sep) j)).getD 0] := by unfold nlv; rw [hy]; rfl
     exact ⟨fun k_ => ([v1 8, v1 9, undef, undef, .string (tg (spl s sep) j), .int .u16 ((nmb 10 255 (tg (spl s sep) j)).getD 0), .bool true, undef, undef, undef, undef, undef, undef, undef, .bool true, .pointer (some ⟨g1, j, none⟩), .string (tg (spl s sep) j), .tuple #[.int .u16 ((nmb 10 255 (tg (spl s sep) j)).getD 0), .bool true], .string (tg (spl s sep) j), .int .i64 10, .int .i64 8, .tuple #[.int .u16 ((nmb 10 255 (tg (spl s sep) j)).getD 0), .bool true], .int .u16 ((nmb 10 255 (tg (spl s sep) j)).getD 0), .bool true, .bool true, .bool false, .slice none 0 0, .int .u16 ((nmb 10 255 (tg (spl s sep) j)).getD 0), .slice (some ⟨g2, 0, none⟩) 1 1, .slice (some ⟨g8, 0, none⟩) 1 cap8, .int .i64 ((j + 1 : Nat) : Int)] : List Value).getD (k_ - 8) undef, .slice (some ⟨g8, 0, none⟩) 1 cap8, by kernel_rfl, by rw [hz]; exact hy, .inr ⟨g8, cap8, Z8, by rw [hz, hnil]; rfl, by rw [hz, hnil]; exact hZ8, M.drop (.cons_cons _ (.cons _ (.cons_cons _ .slnil)))⟩⟩
    ·skip
     refine pl_call M (want_no rfl) (some 29) rfl 165 #[.string (tg (spl s sep) j), .int .i64 10, .int .i64 8] (.tuple #[.int .u16 ((nmb 10 255 (tg (spl s sep) j)).getD 0), .bool false]) (fun _ => by kernel_rfl) (fun w M => call_val (c_number10 (tg (spl s sep) j) w M.laid) (by rw [c2])) ?_
     intro u2 M
     refine pl_val (want_no rfl) (some 25) rfl (.tuple #[.int .u16 ((nmb 10 255 (tg (spl s sep) j)).getD 0), .bool false]) (fun _ => by kernel_rfl) ?_
     refine pl_val (want_no rfl) (some 30) rfl (.int .u16 ((nmb 10 255 (tg (spl s sep) j)).getD 0)) (fun _ => by kernel_rfl) ?_
     refine pl_val (want_no rfl) (some 31) rfl (.bool false) (fun _ => by kernel_rfl) ?_
     refine pl_val (want_no rfl) (some 13) rfl (.int .u16 ((nmb 10 255 (tg (spl s sep) j)).getD 0)) (fun _ => by kernel_rfl) ?_
     refine pl_val (want_no rfl) (some 14) rfl (.bool false) (fun _ => by kernel_rfl) ?_
     refine pl_nil ?_
     refine au_then ?_
     refine wp_seq ?_
     refine wp_seq ?_
     refine rg_lit ?_
     refine pl_val (want_no rfl) (some 32) rfl (.bool false) (fun _ => by kernel_rfl) ?_
     refine pl_val (want_no rfl) (some 33) rfl (.bool true) (fun _ => by kernel_rfl) ?_
     refine pl_nil ?_
     refine au_then ?_
     refine wp_cond_true (by kernel_rfl) ?_
     refine wp_seq ?_
     refine rg_lit ?_
     refine pl_val (want_no rfl) (some 8) rfl (.slice none 0 0) (fun _ => by kernel_rfl) ?_
     refine pl_val (want_no rfl) (some 9) rfl (.bool false) (fun _ => by kernel_rfl) ?_
     refine pl_nil ?_
     refine au_then ?_
     refine wp_ret ?_
     refine au_then_ret ?_
     refine au_block_ret ?_
     refine au_then_ret ?_
     refine au_then_ret ?_
     refine au_block_ret ?_
     refine au_then_ret ?_
     exact bodyPost_ret (v := .tuple #[.slice none 0 0, .bool false]) (results_tmp2 Tryz.results218 _ _ _ _ (by kernel_rfl) (by kernel_rfl)) (by kernel_rfl) (.inl ⟨nl_bad c0 hj hx c2, rfl, below_grown M.old⟩)
   ·skip
    refine wp_seq ?_
    refine rg_lit ?_
    refine pl_val (want_no rfl) (some 22) rfl (.bool true) (fun w => Eq.trans (b := .ok (.value (.bool (decide ((j : Int) < (((spl s sep).length : Nat) : Int))))) w) (by kernel_rfl) (by rw [decide_eq_true (by omega)])) ?_
    refine pl_nil ?_
    refine au_then ?_
    refine wp_seq ?_
    refine wp_cond_true (by kernel_rfl) ?_
    refine wp_skip ?_
    refine au_then ?_
    refine wp_seq ?_
    refine wp_block ?_
    refine wp_seq ?_
    refine rg_lit ?_
    refine pl_val (want_no rfl) (some 23) rfl (.pointer (some ⟨g1, j, none⟩)) (run_ix0 44 9 Tryz.underlying44 inz9 _ _ rfl g1 ((spl s sep).length) ((spl s sep).length) (by kernel_rfl) .i64 j (by kernel_rfl) (by omega)) ?_
    refine pl_cell M (want_no rfl) (some 24) rfl 9 _ rfl g1 j (by kernel_rfl) (.string (tg (spl s sep) j)) (fun _ => by kernel_rfl) (fun w M => M.cell 0 rfl (by omega) rfl) ?_
    refine pl_val (want_no rfl) (some 12) rfl (.string (tg (spl s sep) j)) (fun _ => by kernel_rfl) ?_
    refine pl_nil ?_
    refine au_then ?_
    refine wp_seq ?_
    refine rg_lit ?_
    refine pl_val (want_no rfl) (some 26) rfl (.string (tg (spl s sep) j)) (fun _ => by kernel_rfl) ?_
    refine pl_val (want_no rfl) (some 27) rfl (.int .i64 10) (fun _ => by kernel_rfl) ?_
    refine pl_val (want_no rfl) (some 28) rfl (.int .i64 8) (fun _ => by kernel_rfl) ?_
    rcases Bool.eq_false_or_eq_true ((nmb 10 255 (tg (spl s sep) j)).isSome) with c2 | c2
    ·skip
     refine pl_call M (want_no rfl) (some 29) rfl 165 #[.string (tg (spl s sep) j), .int .i64 10, .int .i64 8] (.tuple #[.int .u16 ((nmb 10 255 (tg (spl s sep) j)).getD 0), .bool true]) (fun _ => by kernel_rfl) (fun w M => call_val (c_number10 (tg (spl s sep) j) w M.laid) (by rw [c2])) ?_
     intro u2 M
     refine pl_val (want_no rfl) (some 25) rfl (.tuple #[.int .u16 ((nmb 10 255 (tg (spl s sep) j)).getD 0), .bool true]) (fun _ => by kernel_rfl) ?_
     refine pl_val (want_no rfl) (some 30) rfl (.int .u16 ((nmb 10 255 (tg (spl s sep) j)).getD 0)) (fun _ => by kernel_rfl) ?_
     refine pl_val (want_no rfl) (some 31) rfl (.bool true) (fun _ => by kernel_rfl) ?_
     refine pl_val (want_no rfl) (some 13) rfl (.int .u16 ((nmb 10 255 (tg (spl s sep) j)).getD 0)) (fun _ => by kernel_rfl) ?_
     refine pl_val (want_no rfl) (some 14) rfl (.bool true) (fun _ => by kernel_rfl) ?_
     refine pl_nil ?_
     refine au_then ?_
     refine wp_seq ?_
     refine wp_seq ?_
     refine rg_lit ?_
     refine pl_val (want_no rfl) (some 32) rfl (.bool true) (fun _ => by kernel_rfl) ?_
     refine pl_val (want_no rfl) (some 33) rfl (.bool false) (fun _ => by kernel_rfl) ?_
     refine pl_nil ?_
     refine au_then ?_
     refine wp_cond_false (by kernel_rfl) ?_
     refine wp_skip ?_
     refine au_then ?_
     refine rg_lit ?_
     refine pl_val (want_no rfl) (some 34) rfl (.slice (some ⟨g9, 0, none⟩) (nlv 10 255 (spl s sep) j).length cap9) (fun _ => by kernel_rfl) ?_
     refine pl_val (want_no rfl) (some 35) rfl (.int .u16 ((nmb 10 255 (tg (spl s sep) j)).getD 0)) (fun _ => by kernel_rfl) ?_
     refine pl_mk M (want_no rfl) (some 36) rfl (fun g2 => .slice (some ⟨g2, 0, none⟩) 1 1) (.cells (av 1 (fun _ => .int .u16 ((nmb 10 255 (tg (spl s sep) j)).getD 0))) 101) (fun _ => by kernel_rfl) ?_
     intro g2 u3 M
     replace M : Mem ⟨w, []⟩ [⟨g1, .cells (av (spl s sep).length (fS (spl s sep))) 9⟩, ⟨g9, Z9⟩, ⟨g2, .cells (av 1 (fun _ => .int .u16 ((nmb 10 255 (tg (spl s sep) j)).getD 0))) 101⟩] u3 := M
     refine pl_appI M (want_no rfl) (some 37) rfl 193 193 101 (.int .u16 0) Tryz.underlying193 info32 rfl 1 g9 ((nlv 10 255 (spl s sep) j).length) cap9 Z9 (v16 (nlv 10 255 (spl s sep) j)) rfl hZ9 (v16_len _) (hlen _ hx hj) 2 g2 101 (.int .u16 ((nmb 10 255 (tg (spl s sep) j)).getD 0)) rfl rfl (fun _ => by kernel_rfl) ?_
     intro g8 cap8 Z8 u4 hZ8 M
     replace M : Mem ⟨w, []⟩ [⟨g1, .cells (av (spl s sep).length (fS (spl s sep))) 9⟩, ⟨g2, .cells (av 1 (fun _ => .int .u16 ((nmb 10 255 (tg (spl s sep) j)).getD 0))) 101⟩, ⟨g8, Z8⟩] u4 := M
     refine pl_val (want_no rfl) (some 10) rfl (.slice (some ⟨g8, 0, none⟩) ((nlv 10 255 (spl s sep) j).length + 1) cap8) (fun _ => by kernel_rfl) ?_
     refine pl_nil ?_
     refine au_block ?_
     refine au_then ?_
     refine rg_lit ?_
     refine pl_val (want_no rfl) (some 38) rfl (.int .i64 ((j + 1 : Nat) : Int)) (fun w => Eq.trans (b := .ok (.value (.int .i64 (IntKind.wrap .i64 ((j : Int) + 1)))) w) (by kernel_rfl) (by rw [wrap64 (by omega) (by omega)]; congr 3)) ?_
     refine pl_val (want_no rfl) (some 21) rfl (.int .i64 ((j + 1 : Nat) : Int)) (fun _ => by kernel_rfl) ?_
     refine pl_nil ?_
     refine au_then ?_
     have hy := nl_ok hx c2
     have hz : nlv 10 255 (spl s sep) (j + 1) = (nlv 10 255 (spl s sep) j) ++ [(nmb 10 255 (tg (spl s sep) j)).getD 0] := by unfold nlv; rw [hy]; rfl
     exact ⟨fun k_ => ([v1 8, v1 9, undef, undef, .string (tg (spl s sep) j), .int .u16 ((nmb 10 255 (tg (spl s sep) j)).getD 0), .bool true, undef, undef, undef, undef, undef, undef, undef, .bool true, .pointer (some ⟨g1, j, none⟩), .string (tg (spl s sep) j), .tuple #[.int .u16 ((nmb 10 255 (tg (spl s sep) j)).getD 0), .bool true], .string (tg (spl s sep) j), .int .i64 10, .int .i64 8, .tuple #[.int .u16 ((nmb 10 255 (tg (spl s sep) j)).getD 0), .bool true], .int .u16 ((nmb 10 255 (tg (spl s sep) j)).getD 0), .bool true, .bool true, .bool false, .slice (some ⟨g9, 0, none⟩) (nlv 10 255 (spl s sep) j).length cap9, .int .u16 ((nmb 10 255 (tg (spl s sep) j)).getD 0), .slice (some ⟨g2, 0, none⟩) 1 1, .slice (some ⟨g8, 0, none⟩) ((nlv 10 255 (spl s sep) j).length + 1) cap8, .int .i64 ((j + 1 : Nat) : Int)] : List Value).getD (k_ - 8) undef, .slice (some ⟨g8, 0, none⟩) ((nlv 10 255 (spl s sep) j).length + 1) cap8, by kernel_rfl, by rw [hz]; exact hy, .inr ⟨g8, cap8, Z8, by rw [hz, List.length_append]; rfl, by rw [hz, v16_app]; exact hZ8, M.drop (.cons_cons _ (.cons _ (.cons_cons _ .slnil)))⟩⟩
    ·skip
     refine pl_call M (want_no rfl) (some 29) rfl 165 #[.string (tg (spl s sep) j), .int .i64 10, .int .i64 8] (.tuple #[.int .u16 ((nmb 10 255 (tg (spl s sep) j)).getD 0), .bool false]) (fun _ => by kernel_rfl) (fun w M => call_val (c_number10 (tg (spl s sep) j) w M.laid) (by rw [c2])) ?_
     intro u2 M
     refine pl_val (want_no rfl) (some 25) rfl (.tuple #[.int .u16 ((nmb 10 255 (tg (spl s sep) j)).getD 0), .bool false]) (fun _ => by kernel_rfl) ?_
     refine pl_val (want_no rfl) (some 30) rfl (.int .u16 ((nmb 10 255 (tg (spl s sep) j)).getD 0)) (fun _ => by kernel_rfl) ?_
     refine pl_val (want_no rfl) (some 31) rfl (.bool false) (fun _ => by kernel_rfl) ?_
     refine pl_val (want_no rfl) (some 13) rfl (.int .u16 ((nmb 10 255 (tg (spl s sep) j)).getD 0)) (fun _ => by kernel_rfl) ?_
     refine pl_val (want_no rfl) (some 14) rfl (.bool false) (fun _ => by kernel_rfl) ?_
     refine pl_nil ?_
     refine au_then ?_
     refine wp_seq ?_
     refine wp_seq ?_
     refine rg_lit ?_
     refine pl_val (want_no rfl) (some 32) rfl (.bool false) (fun _ => by kernel_rfl) ?_
     refine pl_val (want_no rfl) (some 33) rfl (.bool true) (fun _ => by kernel_rfl) ?_
     refine pl_nil ?_
     refine au_then ?_
     refine wp_cond_true (by kernel_rfl) ?_
     refine wp_seq ?_
     refine rg_lit ?_
     refine pl_val (want_no rfl) (some 8) rfl (.slice none 0 0) (fun _ => by kernel_rfl) ?_
     refine pl_val (want_no rfl) (some 9) rfl (.bool false) (fun _ => by kernel_rfl) ?_
     refine pl_nil ?_
     refine au_then ?_
     refine wp_ret ?_
     refine au_then_ret ?_
     refine au_block_ret ?_
     refine au_then_ret ?_
     refine au_then_ret ?_
     refine au_block_ret ?_
     refine au_then_ret ?_
     exact bodyPost_ret (v := .tuple #[.slice none 0 0, .bool false]) (results_tmp2 Tryz.results218 _ _ _ _ (by kernel_rfl) (by kernel_rfl)) (by kernel_rfl) (.inl ⟨nl_bad c0 hj hx c2, rfl, below_grown M.old⟩)
  ·intro a u0 hI
   obtain ⟨v1, tv, rfl, hx, hT⟩ := hI
   rcases hT with ⟨hnil, rfl, M⟩ | ⟨g9, cap9, Z9, rfl, hZ9, M⟩
   ·skip
    refine wp_seq ?_
    refine rg_lit ?_
    refine pl_val (want_no rfl) (some 22) rfl (.bool false) (fun w => Eq.trans (b := .ok (.value (.bool (decide ((((spl s sep).length : Nat) : Int) < (((spl s sep).length : Nat) : Int))))) w) (by kernel_rfl) (by rw [decide_eq_false (by omega)])) ?_
    refine pl_nil ?_
    refine au_then ?_
    refine wp_seq ?_
    refine wp_cond_false (by kernel_rfl) ?_
    refine wp_exit ?_
    refine au_then_exit ?_
    refine au_then_exit ?_
    refine au_block_exit ?_
    refine au_then ?_
    refine wp_seq ?_
    refine rg_lit ?_
    refine pl_val (want_no rfl) (some 39) rfl (.slice none 0 0) (fun _ => by kernel_rfl) ?_
    refine pl_val (want_no rfl) (some 8) rfl (.slice none 0 0) (fun _ => by kernel_rfl) ?_
    refine pl_val (want_no rfl) (some 9) rfl (.bool true) (fun _ => by kernel_rfl) ?_
    refine pl_nil ?_
    refine au_then ?_
    refine wp_ret ?_
    exact bodyPost_ret (v := .tuple #[.slice none 0 0, .bool true]) (results_tmp2 Tryz.results218 _ _ _ _ (by kernel_rfl) (by kernel_rfl)) (by kernel_rfl) (.inr ⟨_, (show nbs 10 255 s sep = some (nlv 10 255 (spl s sep) ((spl s sep).length)) by unfold nbs; rw [if_neg c0]; exact hx), .inl ⟨hnil, rfl, below_grown M.old⟩⟩)
   ·skip
    refine wp_seq ?_
    refine rg_lit ?_
    refine pl_val (want_no rfl) (some 22) rfl (.bool false) (fun w => Eq.trans (b := .ok (.value (.bool (decide ((((spl s sep).length : Nat) : Int) < (((spl s sep).length : Nat) : Int))))) w) (by kernel_rfl) (by rw [decide_eq_false (by omega)])) ?_
    refine pl_nil ?_
    refine au_then ?_
    refine wp_seq ?_
    refine wp_cond_false (by kernel_rfl) ?_
    refine wp_exit ?_
    refine au_then_exit ?_
    refine au_then_exit ?_
    refine au_block_exit ?_
    refine au_then ?_
    refine wp_seq ?_
    refine rg_lit ?_
    refine pl_val (want_no rfl) (some 39) rfl (.slice (some ⟨g9, 0, none⟩) (nlv 10 255 (spl s sep) ((spl s sep).length)).length cap9) (fun _ => by kernel_rfl) ?_
    refine pl_val (want_no rfl) (some 8) rfl (.slice (some ⟨g9, 0, none⟩) (nlv 10 255 (spl s sep) ((spl s sep).length)).length cap9) (fun _ => by kernel_rfl) ?_
    refine pl_val (want_no rfl) (some 9) rfl (.bool true) (fun _ => by kernel_rfl) ?_
    refine pl_nil ?_
    refine au_then ?_
    refine wp_ret ?_
    exact bodyPost_ret (v := .tuple #[.slice (some ⟨g9, 0, none⟩) (nlv 10 255 (spl s sep) ((spl s sep).length)).length cap9, .bool true]) (results_tmp2 Tryz.results218 _ _ _ _ (by kernel_rfl) (by kernel_rfl)) (by kernel_rfl) (.inr ⟨_, (show nbs 10 255 s sep = some (nlv 10 255 (spl s sep) ((spl s sep).length)) by unfold nbs; rw [if_neg c0]; exact hx), .inr ⟨fun e => by have h2 := nl_len hx; rw [e] at h2; have h3 := spl_len s sep h1; simp at h2; omega, g9, cap9, Z9, rfl, M.geAt 1 rfl, M.get 1 rfl, hZ9, below_grown M.old⟩⟩)
set_option maxRecDepth 100000 in
set_option maxHeartbeats 4000000 in
set_option linter.unusedSimpArgs false in
theorem c_nums16 (s sep : ByteArray) (hs : s.size ≤ 1000) (h1 : 1 ≤ sep.size) (w : World) (hL : Laid w)  :
  Calls Tryz.prog 218 #[.string s, .string sep, .int .i64 16, .int .i64 16] w fun r w' => NumsPost (nbs 16 65535 s sep) w r w' := by
 go_enter Tryz.func218, Tryz.ntmps218
 have M := Mem.start hL
 have hsl := spl_le s sep h1
 have hlen : ∀ l : List Int, ∀ {j : Nat}, nl 16 65535 (spl s sep) j = some l → j < (spl s sep).length → l.length < 1000000 := fun l j h hj => by have := nl_len h; omega
 refine wp_seq ?_
 refine rg_lit ?_
 refine pl_val (want_no rfl) (some 8) rfl (.slice none 0 0) (fun _ => by kernel_rfl) ?_
 refine pl_val (want_no rfl) (some 9) rfl (.bool false) (fun _ => by kernel_rfl) ?_
 refine pl_nil ?_
 refine au_then ?_
 refine wp_seq ?_
 refine wp_seq ?_
 refine rg_lit ?_
 refine pl_val (want_no rfl) (some 15) rfl (.string s) (fun _ => by kernel_rfl) ?_
 by_cases c0 : s = (⟨#[]⟩ : ByteArray)
 ·skip
  refine pl_val (want_no rfl) (some 16) rfl (.bool true) (fun w => Eq.trans (b := .ok (.value (.bool (s.toList == (⟨#[]⟩ : ByteArray).toList))) w) (by kernel_rfl) (by rw [seq_pos c0])) ?_
  refine pl_nil ?_
  refine au_then ?_
  refine wp_cond_true (by kernel_rfl) ?_
  refine wp_seq ?_
  refine rg_lit ?_
  refine pl_val (want_no rfl) (some 8) rfl (.slice none 0 0) (fun _ => by kernel_rfl) ?_
  refine pl_val (want_no rfl) (some 9) rfl (.bool true) (fun _ => by kernel_rfl) ?_
  refine pl_nil ?_
  refine au_then ?_
  refine wp_ret ?_
  refine au_then_ret ?_
  exact bodyPost_ret (v := .tuple #[.slice none 0 0, .bool true]) (results_tmp2 Tryz.results218 _ _ _ _ (by kernel_rfl) (by kernel_rfl)) (by kernel_rfl) (.inr ⟨[], if_pos c0, .inl ⟨rfl, rfl, below_grown M.old⟩⟩)
 ·skip
  refine pl_val (want_no rfl) (some 16) rfl (.bool false) (fun w => Eq.trans (b := .ok (.value (.bool (s.toList == (⟨#[]⟩ : ByteArray).toList))) w) (by kernel_rfl) (by rw [seq_neg c0])) ?_
  refine pl_nil ?_
  refine au_then ?_
  refine wp_cond_false (by kernel_rfl) ?_
  refine wp_skip ?_
  refine au_then ?_
  refine wp_seq ?_
  refine rg_lit ?_
  refine pl_val (want_no rfl) (some 10) rfl (.slice none 0 0) (fun _ => by kernel_rfl) ?_
  refine pl_nil ?_
  refine au_then ?_
  refine wp_seq ?_
  refine wp_seq ?_
  refine rg_lit ?_
  refine pl_val (want_no rfl) (some 17) rfl (.string s) (fun _ => by kernel_rfl) ?_
  refine pl_val (want_no rfl) (some 18) rfl (.string sep) (fun _ => by kernel_rfl) ?_
  refine pl_calln M (want_no rfl) (some 19) rfl 62 #[.string s, .string sep] (fun g1 => .slice (some ⟨g1, 0, none⟩) (spl s sep).length (spl s sep).length) (.cells (av (spl s sep).length (fS (spl s sep))) 9) (fun _ => by kernel_rfl) (fun w M => c_Split s sep (by omega) h1 w M.laid) ?_
  intro g1 u1 M
  replace M : Mem ⟨w, []⟩ [⟨g1, .cells (av (spl s sep).length (fS (spl s sep))) 9⟩] u1 := M
  refine pl_val (want_no rfl) (some 20) rfl (.int .i64 (((spl s sep).length : Nat) : Int)) (fun _ => by kernel_rfl) ?_
  refine pl_val (want_no rfl) (some 21) rfl (.int .i64 0) (fun _ => by kernel_rfl) ?_
  refine pl_nil ?_
  refine au_then ?_
  refine wp_block ?_
  refine au_loop (fun j a w' => ∃ (v1 : Nat → Value) (tv : Value), a = ⟨#[.string s, .string sep, .int .i64 16, .int .i64 16, undef, undef, undef, undef, v1 8, v1 9, tv, undef, v1 12, v1 13, v1 14, .string s, .bool false, .string s, .string sep, .slice (some ⟨g1, 0, none⟩) (spl s sep).length (spl s sep).length, .int .i64 (((spl s sep).length : Nat) : Int), .int .i64 (j : Int), v1 22, v1 23, v1 24, v1 25, v1 26, v1 27, v1 28, v1 29, v1 30, v1 31, v1 32, v1 33, v1 34, v1 35, v1 36, v1 37, v1 38, undef], []⟩ ∧ nl 16 65535 (spl s sep) j = some (nlv 16 65535 (spl s sep) j) ∧ TS ⟨w, []⟩ [⟨g1, .cells (av (spl s sep).length (fS (spl s sep))) 9⟩] w' tv (nlv 16 65535 (spl s sep) j)) (spl s sep).length ⟨fun k_ => ([.slice none 0 0, .bool false, undef, undef, undef, undef, undef, undef, undef, undef, undef, undef, undef, undef, undef, undef, undef, undef, undef, undef, undef, undef, undef, undef, undef, undef, undef, undef, undef, undef, undef] : List Value).getD (k_ - 8) undef, _, by kernel_rfl, rfl, .inl ⟨rfl, rfl, M⟩⟩ ?_ ?_
  ·intro j a u0 hj hI
   obtain ⟨v1, tv, rfl, hx, hT⟩ := hI
   rcases hT with ⟨hnil, rfl, M⟩ | ⟨g9, cap9, Z9, rfl, hZ9, M⟩
   ·skip
    refine wp_seq ?_
    refine rg_lit ?_
    refine pl_val (want_no rfl) (some 22) rfl (.bool true) (fun w => Eq.trans (b := .ok (.value (.bool (decide ((j : Int) < (((spl s sep).length : Nat) : Int))))) w) (by kernel_rfl) (by rw [decide_eq_true (by omega)])) ?_
    refine pl_nil ?_
    refine au_then ?_
    refine wp_seq ?_
    refine wp_cond_true (by kernel_rfl) ?_
    refine wp_skip ?_
    refine au_then ?_
    refine wp_seq ?_
    refine wp_block ?_
    refine wp_seq ?_
    refine rg_lit ?_
    refine pl_val (want_no rfl) (some 23) rfl (.pointer (some ⟨g1, j, none⟩)) (run_ix0 44 9 Tryz.underlying44 inz9 _ _ rfl g1 ((spl s sep).length) ((spl s sep).length) (by kernel_rfl) .i64 j (by kernel_rfl) (by omega)) ?_
    refine pl_cell M (want_no rfl) (some 24) rfl 9 _ rfl g1 j (by kernel_rfl) (.string (tg (spl s sep) j)) (fun _ => by kernel_rfl) (fun w M => M.cell 0 rfl (by omega) rfl) ?_
    refine pl_val (want_no rfl) (some 12) rfl (.string (tg (spl s sep) j)) (fun _ => by kernel_rfl) ?_
    refine pl_nil ?_
    refine au_then ?_
    refine wp_seq ?_
    refine rg_lit ?_
    refine pl_val (want_no rfl) (some 26) rfl (.string (tg (spl s sep) j)) (fun _ => by kernel_rfl) ?_
    refine pl_val (want_no rfl) (some 27) rfl (.int .i64 16) (fun _ => by kernel_rfl) ?_
    refine pl_val (want_no rfl) (some 28) rfl (.int .i64 16) (fun _ => by kernel_rfl) ?_
    rcases Bool.eq_false_or_eq_true ((nmb 16 65535 (tg (spl s sep) j)).isSome) with c2 | c2
    ·skip
     refine pl_call M (want_no rfl) (some 29) rfl 165 #[.string (tg (spl s sep) j), .int .i64 16, .int .i64 16] (.tuple #[.int .u16 ((nmb 16 65535 (tg (spl s sep) j)).getD 0), .bool true]) (fun _ => by kernel_rfl) (fun w M => call_val (c_number16 (tg (spl s sep) j) w M.laid) (by rw [c2])) ?_
     intro u2 M
     refine pl_val (want_no rfl) (some 25) rfl (.tuple #[.int .u16 ((nmb 16 65535 (tg (spl s sep) j)).getD 0), .bool true]) (fun _ => by kernel_rfl) ?_
     refine pl_val (want_no rfl) (some 30) rfl (.int .u16 ((nmb 16 65535 (tg (spl s sep) j)).getD 0)) (fun _ => by kernel_rfl) ?_
     refine pl_val (want_no rfl) (some 31) rfl (.bool true) (fun _ => by kernel_rfl) ?_
     refine pl_val (want_no rfl) (some 13) rfl (.int .u16 ((nmb 16 65535 (tg (spl s sep) j)).getD 0)) (fun _ => by kernel_rfl) ?_
     refine pl_val (want_no rfl) (some 14) rfl (.bool true) (fun _ => by kernel_rfl) ?_
     refine pl_nil ?_
     refine au_then ?_
     refine wp_seq ?_
     refine wp_seq ?_
     refine rg_lit ?_
     refine pl_val (want_no rfl) (some 32) rfl (.bool true) (fun _ => by kernel_rfl) ?_
     refine pl_val (want_no rfl) (some 33) rfl (.bool false) (fun _ => by kernel_rfl) ?_
     refine pl_nil ?_
     refine au_then ?_
     refine wp_cond_false (by kernel_rfl) ?_
     refine wp_skip ?_
     refine au_then ?_
     refine rg_lit ?_
     refine pl_val (want_no rfl) (some 34) rfl (.slice none 0 0) (fun _ => by kernel_rfl) ?_
     refine pl_val (want_no rfl) (some 35) rfl (.int .u16 ((nmb 16 65535 (tg (spl s sep) j)).getD 0)) (fun _ => by kernel_rfl) ?_
     refine pl_mk M (want_no rfl) (some 36) rfl (fun g2 => .slice (some ⟨g2, 0, none⟩) 1 1) (.cells (av 1 (fun _ => .int .u16 ((nmb 16 65535 (tg (spl s sep) j)).getD 0))) 101) (fun _ => by kernel_rfl) ?_
     intro g2 u3 M
     replace M : Mem ⟨w, []⟩ [⟨g1, .cells (av (spl s sep).length (fS (spl s sep))) 9⟩, ⟨g2, .cells (av 1 (fun _ => .int .u16 ((nmb 16 65535 (tg (spl s sep) j)).getD 0))) 101⟩] u3 := M
     refine pl_app0I M (want_no rfl) (some 37) rfl 193 193 101 (.int .u16 0) Tryz.underlying193 info32 rfl 1 g2 101 (.int .u16 ((nmb 16 65535 (tg (spl s sep) j)).getD 0)) rfl (fun _ => by kernel_rfl) ?_
     intro g8 cap8 Z8 u4 hZ8 M
     replace M : Mem ⟨w, []⟩ [⟨g1, .cells (av (spl s sep).length (fS (spl s sep))) 9⟩, ⟨g2, .cells (av 1 (fun _ => .int .u16 ((nmb 16 65535 (tg (spl s sep) j)).getD 0))) 101⟩, ⟨g8, Z8⟩] u4 := M
     refine pl_val (want_no rfl) (some 10) rfl (.slice (some ⟨g8, 0, none⟩) 1 cap8) (fun _ => by kernel_rfl) ?_
     refine pl_nil ?_
     refine au_block ?_
     refine au_then ?_
     refine rg_lit ?_
     refine pl_val (want_no rfl) (some 38) rfl (.int .i64 ((j + 1 : Nat) : Int)) (fun w => Eq.trans (b := .ok (.value (.int .i64 (IntKind.wrap .i64 ((j : Int) + 1)))) w) (by kernel_rfl) (by rw [wrap64 (by omega) (by omega)]; congr 3)) ?_
     refine pl_val (want_no rfl) (some 21) rfl (.int .i64 ((j + 1 : Nat) : Int)) (fun _ => by kernel_rfl) ?_
     refine pl_nil ?_
     refine au_then ?_
     have hy := nl_ok hx c2
     have hz : nlv 16 65535 (spl s sep) (j + 1) = (nlv 16 65535 (spl s sep) j) ++ [(nmb 16 65535 (tg (spl s sep) j)).getD 0] := by unfold nlv; rw [hy]; rfl
     exact ⟨fun k_ => ([v1 8, v1 9, undef, undef, .string (tg (spl s sep) j), .int .u16 ((nmb 16 65535 (tg (spl s sep) j)).getD 0), .bool true, undef, undef, undef, undef, undef, undef, undef, .bool true, .pointer (some ⟨g1, j, none⟩), .string (tg (spl s sep) j), .tuple #[.int .u16 ((nmb 16 65535 (tg (spl s sep) j)).getD 0), .bool true], .string (tg (spl s sep) j), .int .i64 16, .int .i64 16, .tuple #[.int .u16 ((nmb 16 65535 (tg (spl s sep) j)).getD 0), .bool true], .int .u16 ((nmb 16 65535 (tg (spl s sep) j)).getD 0), .bool true, .bool true, .bool false, .slice none 0 0, .int .u16 ((nmb 16 65535 (tg (spl s sep) j)).getD 0), .slice (some ⟨g2, 0, none⟩) 1 1, .slice (some ⟨g8, 0, none⟩) 1 cap8, .int .i64 ((j + 1 : Nat) : Int)] : List Value).getD (k_ - 8) undef, .slice (some ⟨g8, 0, none⟩) 1 cap8, by kernel_rfl, by rw [hz]; exact hy, .inr ⟨g8, cap8, Z8, by rw [hz, hnil]; rfl, by rw [hz, hnil]; exact hZ8, M.drop (.cons_cons _ (.cons _ (.cons_cons _ .slnil)))⟩⟩
    ·skip
     refine pl_call M (want_no rfl) (some 29) rfl 165 #[.string (tg (spl s sep) j), .int .i64 16, .int .i64 16] (.tuple #[.int .u16 ((nmb 16 65535 (tg (spl s sep) j)).getD 0), .bool false]) (fun _ => by kernel_rfl) (fun w M => call_val (c_number16 (tg (spl s sep) j) w M.laid) (by rw [c2])) ?_
     intro u2 M
     refine pl_val (want_no rfl) (some 25) rfl (.tuple #[.int .u16 ((nmb 16 65535 (tg (spl s sep) j)).getD 0), .bool false]) (fun _ => by kernel_rfl) ?_
     refine pl_val (want_no rfl) (some 30) rfl (.int .u16 ((nmb 16 65535 (tg (spl s sep) j)).getD 0)) (fun _ => by kernel_rfl) ?_
     refine pl_val (want_no rfl) (some 31) rfl (.bool false) (fun _ => by kernel_rfl) ?_
     refine pl_val (want_no rfl) (some 13) rfl (.int .u16 ((nmb 16 65535 (tg (spl s sep) j)).getD 0)) (fun _ => by kernel_rfl) ?_
     refine pl_val (want_no rfl) (some 14) rfl (.bool false) (fun _ => by kernel_rfl) ?_
     refine pl_nil ?_
     refine au_then ?_
     refine wp_seq ?_
     refine wp_seq ?_
     refine rg_lit ?_
     refine pl_val (want_no rfl) (some 32) rfl (.bool false) (fun _ => by kernel_rfl) ?_
     refine pl_val (want_no rfl) (some 33) rfl (.bool true) (fun _ => by kernel_rfl) ?_
     refine pl_nil ?_
     refine au_then ?_
     refine wp_cond_true (by kernel_rfl) ?_
     refine wp_seq ?_
     refine rg_lit ?_
     refine pl_val (want_no rfl) (some 8) rfl (.slice none 0 0) (fun _ => by kernel_rfl) ?_
     refine pl_val (want_no rfl) (some 9) rfl (.bool false) (fun _ => by kernel_rfl) ?_
     refine pl_nil ?_
     refine au_then ?_
     refine wp_ret ?_
     refine au_then_ret ?_
     refine au_block_ret ?_
     refine au_then_ret ?_
     refine au_then_ret ?_
     refine au_block_ret ?_
     refine au_then_ret ?_
     exact bodyPost_ret (v := .tuple #[.slice none 0 0, .bool false]) (results_tmp2 Tryz.results218 _ _ _ _ (by kernel_rfl) (by kernel_rfl)) (by kernel_rfl) (.inl ⟨nl_bad c0 hj hx c2, rfl, below_grown M.old⟩)
   ·skip
    refine wp_seq ?_
    refine rg_lit ?_
    refine pl_val (want_no rfl) (some 22) rfl (.bool true) (fun w => Eq.trans (b := .ok (.value (.bool (decide ((j : Int) < (((spl s sep).length : Nat) : Int))))) w) (by kernel_rfl) (by rw [decide_eq_true (by omega)])) ?_
    refine pl_nil ?_
    refine au_then ?_
    refine wp_seq ?_
    refine wp_cond_true (by kernel_rfl) ?_
    refine wp_skip ?_
    refine au_then ?_
    refine wp_seq ?_
    refine wp_block ?_
    refine wp_seq ?_
    refine rg_lit ?_
    refine pl_val (want_no rfl) (some 23) rfl (.pointer (some ⟨g1, j, none⟩)) (run_ix0 44 9 Tryz.underlying44 inz9 _ _ rfl g1 ((spl s sep).length) ((spl s sep).length) (by kernel_rfl) .i64 j (by kernel_rfl) (by omega)) ?_
    refine pl_cell M (want_no rfl) (some 24) rfl 9 _ rfl g1 j (by kernel_rfl) (.string (tg (spl s sep) j)) (fun _ => by kernel_rfl) (fun w M => M.cell 0 rfl (by omega) rfl) ?_
    refine pl_val (want_no rfl) (some 12) rfl (.string (tg (spl s sep) j)) (fun _ => by kernel_rfl) ?_
    refine pl_nil ?_
    refine au_then ?_
    refine wp_seq ?_
    refine rg_lit ?_
    refine pl_val (want_no rfl) (some 26) rfl (.string (tg (spl s sep) j)) (fun _ => by kernel_rfl) ?_
    refine pl_val (want_no rfl) (some 27) rfl (.int .i64 16) (fun _ => by kernel_rfl) ?_
    refine pl_val (want_no rfl) (some 28) rfl (.int .i64 16) (fun _ => by kernel_rfl) ?_
    rcases Bool.eq_false_or_eq_true ((nmb 16 65535 (tg (spl s sep) j)).isSome) with c2 | c2
    ·skip
     refine pl_call M (want_no rfl) (some 29) rfl 165 #[.string (tg (spl s sep) j), .int .i64 16, .int .i64 16] (.tuple #[.int .u16 ((nmb 16 65535 (tg (spl s sep) j)).getD 0), .bool true]) (fun _ => by kernel_rfl) (fun w M => call_val (c_number16 (tg (spl s sep) j) w M.laid) (by rw [c2])) ?_
     intro u2 M
     refine pl_val (want_no rfl) (some 25) rfl (.tuple #[.int .u16 ((nmb 16 65535 (tg (spl s sep) j)).getD 0), .bool true]) (fun _ => by kernel_rfl) ?_
     refine pl_val (want_no rfl) (some 30) rfl (.int .u16 ((nmb 16 65535 (tg (spl s sep) j)).getD 0)) (fun _ => by kernel_rfl) ?_
     refine pl_val (want_no rfl) (some 31) rfl (.bool true) (fun _ => by kernel_rfl) ?_
     refine pl_val (want_no rfl) (some 13) rfl (.int .u16 ((nmb 16 65535 (tg (spl s sep) j)).getD 0)) (fun _ => by kernel_rfl) ?_
     refine pl_val (want_no rfl) (some 14) rfl (.bool true) (fun _ => by kernel_rfl) ?_
     refine pl_nil ?_
     refine au_then ?_
     refine wp_seq ?_
     refine wp_seq ?_
     refine rg_lit ?_
     refine pl_val (want_no rfl) (some 32) rfl (.bool true) (fun _ => by kernel_rfl) ?_
     refine pl_val (want_no rfl) (some 33) rfl (.bool false) (fun _ => by kernel_rfl) ?_
     refine pl_nil ?_
     refine au_then ?_
     refine wp_cond_false (by kernel_rfl) ?_
     refine wp_skip ?_
     refine au_then ?_
     refine rg_lit ?_
     refine pl_val (want_no rfl) (some 34) rfl (.slice (some ⟨g9, 0, none⟩) (nlv 16 65535 (spl s sep) j).length cap9) (fun _ => by kernel_rfl) ?_
     refine pl_val (want_no rfl) (some 35) rfl (.int .u16 ((nmb 16 65535 (tg (spl s sep) j)).getD 0)) (fun _ => by kernel_rfl) ?_
     refine pl_mk M (want_no rfl) (some 36) rfl (fun g2 => .slice (some ⟨g2, 0, none⟩) 1 1) (.cells (av 1 (fun _ => .int .u16 ((nmb 16 65535 (tg (spl s sep) j)).getD 0))) 101) (fun _ => by kernel_rfl) ?_
     intro g2 u3 M
     replace M : Mem ⟨w, []⟩ [⟨g1, .cells (av (spl s sep).length (fS (spl s sep))) 9⟩, ⟨g9, Z9⟩, ⟨g2, .cells (av 1 (fun _ => .int .u16 ((nmb 16 65535 (tg (spl s sep) j)).getD 0))) 101⟩] u3 := M
     refine pl_appI M (want_no rfl) (some 37) rfl 193 193 101 (.int .u16 0) Tryz.underlying193 info32 rfl 1 g9 ((nlv 16 65535 (spl s sep) j).length) cap9 Z9 (v16 (nlv 16 65535 (spl s sep) j)) rfl hZ9 (v16_len _) (hlen _ hx hj) 2 g2 101 (.int .u16 ((nmb 16 65535 (tg (spl s sep) j)).getD 0)) rfl rfl (fun _ => by kernel_rfl) ?_
     intro g8 cap8 Z8 u4 hZ8 M
     replace M : Mem ⟨w, []⟩ [⟨g1, .cells (av (spl s sep).length (fS (spl s sep))) 9⟩, ⟨g2, .cells (av 1 (fun _ => .int .u16 ((nmb 16 65535 (tg (spl s sep) j)).getD 0))) 101⟩, ⟨g8, Z8⟩] u4 := M
     refine pl_val (want_no rfl) (some 10) rfl (.slice (some ⟨g8, 0, none⟩) ((nlv 16 65535 (spl s sep) j).length + 1) cap8) (fun _ => by kernel_rfl) ?_
     refine pl_nil ?_
     refine au_block ?_
     refine au_then ?_
     refine rg_lit ?_
     refine pl_val (want_no rfl) (some 38) rfl (.int .i64 ((j + 1 : Nat) : Int)) (fun w => Eq.trans (b := .ok (.value (.int .i64 (IntKind.wrap .i64 ((j : Int) + 1)))) w) (by kernel_rfl) (by rw [wrap64 (by omega) (by omega)]; congr 3)) ?_
     refine pl_val (want_no rfl) (some 21) rfl (.int .i64 ((j + 1 : Nat) : Int)) (fun _ => by kernel_rfl) ?_
     refine pl_nil ?_
     refine au_then ?_
     have hy := nl_ok hx c2
     have hz : nlv 16 65535 (spl s sep) (j + 1) = (nlv 16 65535 (spl s sep) j) ++ [(nmb 16 65535 (tg (spl s sep) j)).getD 0] := by unfold nlv; rw [hy]; rfl
     exact ⟨fun k_ => ([v1 8, v1 9, undef, undef, .string (tg (spl s sep) j), .int .u16 ((nmb 16 65535 (tg (spl s sep) j)).getD 0), .bool true, undef, undef, undef, undef, undef, undef, undef, .bool true, .pointer (some ⟨g1, j, none⟩), .string (tg (spl s sep) j), .tuple #[.int .u16 ((nmb 16 65535 (tg (spl s sep) j)).getD 0), .bool true], .string (tg (spl s sep) j), .int .i64 16, .int .i64 16, .tuple #[.int .u16 ((nmb 16 65535 (tg (spl s sep) j)).getD 0), .bool true], .int .u16 ((nmb 16 65535 (tg (spl s sep) j)).getD 0), .bool true, .bool true, .bool false, .slice (some ⟨g9, 0, none⟩) (nlv 16 65535 (spl s sep) j).length cap9, .int .u16 ((nmb 16 65535 (tg (spl s sep) j)).getD 0), .slice (some ⟨g2, 0, none⟩) 1 1, .slice (some ⟨g8, 0, none⟩) ((nlv 16 65535 (spl s sep) j).length + 1) cap8, .int .i64 ((j + 1 : Nat) : Int)] : List Value).getD (k_ - 8) undef, .slice (some ⟨g8, 0, none⟩) ((nlv 16 65535 (spl s sep) j).length + 1) cap8, by kernel_rfl, by rw [hz]; exact hy, .inr ⟨g8, cap8, Z8, by rw [hz, List.length_append]; rfl, by rw [hz, v16_app]; exact hZ8, M.drop (.cons_cons _ (.cons _ (.cons_cons _ .slnil)))⟩⟩
    ·skip
     refine pl_call M (want_no rfl) (some 29) rfl 165 #[.string (tg (spl s sep) j), .int .i64 16, .int .i64 16] (.tuple #[.int .u16 ((nmb 16 65535 (tg (spl s sep) j)).getD 0), .bool false]) (fun _ => by kernel_rfl) (fun w M => call_val (c_number16 (tg (spl s sep) j) w M.laid) (by rw [c2])) ?_
     intro u2 M
     refine pl_val (want_no rfl) (some 25) rfl (.tuple #[.int .u16 ((nmb 16 65535 (tg (spl s sep) j)).getD 0), .bool false]) (fun _ => by kernel_rfl) ?_
     refine pl_val (want_no rfl) (some 30) rfl (.int .u16 ((nmb 16 65535 (tg (spl s sep) j)).getD 0)) (fun _ => by kernel_rfl) ?_
     refine pl_val (want_no rfl) (some 31) rfl (.bool false) (fun _ => by kernel_rfl) ?_
     refine pl_val (want_no rfl) (some 13) rfl (.int .u16 ((nmb 16 65535 (tg (spl s sep) j)).getD 0)) (fun _ => by kernel_rfl) ?_
     refine pl_val (want_no rfl) (some 14) rfl (.bool false) (fun _ => by kernel_rfl) ?_
     refine pl_nil ?_
     refine au_then ?_
     refine wp_seq ?_
     refine wp_seq ?_
     refine rg_lit ?_
     refine pl_val (want_no rfl) (some 32) rfl (.bool false) (fun _ => by kernel_rfl) ?_
     refine pl_val (want_no rfl) (some 33) rfl (.bool true) (fun _ => by kernel_rfl) ?_
     refine pl_nil ?_
     refine au_then ?_
     refine wp_cond_true (by kernel_rfl) ?_
     refine wp_seq ?_
     refine rg_lit ?_
     refine pl_val (want_no rfl) (some 8) rfl (.slice none 0 0) (fun _ => by kernel_rfl) ?_
     refine pl_val (want_no rfl) (some 9) rfl (.bool false) (fun _ => by kernel_rfl) ?_
     refine pl_nil ?_
     refine au_then ?_
     refine wp_ret ?_
     refine au_then_ret ?_
     refine au_block_ret ?_
     refine au_then_ret ?_
     refine au_then_ret ?_
     refine au_block_ret ?_
     refine au_then_ret ?_
     exact bodyPost_ret (v := .tuple #[.slice none 0 0, .bool false]) (results_tmp2 Tryz.results218 _ _ _ _ (by kernel_rfl) (by kernel_rfl)) (by kernel_rfl) (.inl ⟨nl_bad c0 hj hx c2, rfl, below_grown M.old⟩)
  ·intro a u0 hI
   obtain ⟨v1, tv, rfl, hx, hT⟩ := hI
   rcases hT with ⟨hnil, rfl, M⟩ | ⟨g9, cap9, Z9, rfl, hZ9, M⟩
   ·skip
    refine wp_seq ?_
    refine rg_lit ?_
    refine pl_val (want_no rfl) (some 22) rfl (.bool false) (fun w => Eq.trans (b := .ok (.value (.bool (decide ((((spl s sep).length : Nat) : Int) < (((spl s sep).length : Nat) : Int))))) w) (by kernel_rfl) (by rw [decide_eq_false (by omega)])) ?_
    refine pl_nil ?_
    refine au_then ?_
    refine wp_seq ?_
    refine wp_cond_false (by kernel_rfl) ?_
    refine wp_exit ?_
    refine au_then_exit ?_
    refine au_then_exit ?_
    refine au_block_exit ?_
    refine au_then ?_
    refine wp_seq ?_
    refine rg_lit ?_
    refine pl_val (want_no rfl) (some 39) rfl (.slice none 0 0) (fun _ => by kernel_rfl) ?_
    refine pl_val (want_no rfl) (some 8) rfl (.slice none 0 0) (fun _ => by kernel_rfl) ?_
    refine pl_val (want_no rfl) (some 9) rfl (.bool true) (fun _ => by kernel_rfl) ?_
    refine pl_nil ?_
    refine au_then ?_
    refine wp_ret ?_
    exact bodyPost_ret (v := .tuple #[.slice none 0 0, .bool true]) (results_tmp2 Tryz.results218 _ _ _ _ (by kernel_rfl) (by kernel_rfl)) (by kernel_rfl) (.inr ⟨_, (show nbs 16 65535 s sep = some (nlv 16 65535 (spl s sep) ((spl s sep).length)) by unfold nbs; rw [if_neg c0]; exact hx), .inl ⟨hnil, rfl, below_grown M.old⟩⟩)
   ·skip
    refine wp_seq ?_
    refine rg_lit ?_
    refine pl_val (want_no rfl) (some 22) rfl (.bool false) (fun w => Eq.trans (b := .ok (.value (.bool (decide ((((spl s sep).length : Nat) : Int) < (((spl s sep).length : Nat) : Int))))) w) (by kernel_rfl) (by rw [decide_eq_false (by omega)])) ?_
    refine pl_nil ?_
    refine au_then ?_
    refine wp_seq ?_
    refine wp_cond_false (by kernel_rfl) ?_
    refine wp_exit ?_
    refine au_then_exit ?_
    refine au_then_exit ?_
    refine au_block_exit ?_
    refine au_then ?_
    refine wp_seq ?_
    refine rg_lit ?_
    refine pl_val (want_no rfl) (some 39) rfl (.slice (some ⟨g9, 0, none⟩) (nlv 16 65535 (spl s sep) ((spl s sep).length)).length cap9) (fun _ => by kernel_rfl) ?_
    refine pl_val (want_no rfl) (some 8) rfl (.slice (some ⟨g9, 0, none⟩) (nlv 16 65535 (spl s sep) ((spl s sep).length)).length cap9) (fun _ => by kernel_rfl) ?_
    refine pl_val (want_no rfl) (some 9) rfl (.bool true) (fun _ => by kernel_rfl) ?_
    refine pl_nil ?_
    refine au_then ?_
    refine wp_ret ?_
    exact bodyPost_ret (v := .tuple #[.slice (some ⟨g9, 0, none⟩) (nlv 16 65535 (spl s sep) ((spl s sep).length)).length cap9, .bool true]) (results_tmp2 Tryz.results218 _ _ _ _ (by kernel_rfl) (by kernel_rfl)) (by kernel_rfl) (.inr ⟨_, (show nbs 16 65535 s sep = some (nlv 16 65535 (spl s sep) ((spl s sep).length)) by unfold nbs; rw [if_neg c0]; exact hx), .inr ⟨fun e => by have h2 := nl_len hx; rw [e] at h2; have h3 := spl_len s sep h1; simp at h2; omega, g9, cap9, Z9, rfl, M.geAt 1 rfl, M.get 1 rfl, hZ9, below_grown M.old⟩⟩)
theorem c_nums10N (s sep : ByteArray) (hs : s.size ≤ 1000) (h1 : 1 ≤ sep.size) (h : nbs 10 255 s sep = none) (w : World) (hL : Laid w) : Calls Tryz.prog 218 #[.string s, .string sep, .int .i64 10, .int .i64 8] w fun r w' => r = .returned (.tuple #[.slice none 0 0, .bool false]) ∧ Below w.heap.size w w' :=
 (c_nums10 s sep hs h1 w hL).mono fun _ _ hp => by
  rcases hp with ⟨_, h2, h3⟩ | ⟨l, hl, _⟩
  ·exact ⟨h2, h3⟩
  ·rw [h] at hl
   cases hl
theorem c_nums10E (s sep : ByteArray) (hs : s.size ≤ 1000) (h1 : 1 ≤ sep.size) (h : nbs 10 255 s sep = some []) (w : World) (hL : Laid w) : Calls Tryz.prog 218 #[.string s, .string sep, .int .i64 10, .int .i64 8] w fun r w' => r = .returned (.tuple #[.slice none 0 0, .bool true]) ∧ Below w.heap.size w w' :=
 (c_nums10 s sep hs h1 w hL).mono fun _ _ hp => by
  rcases hp with ⟨h0, _⟩ | ⟨l, hl, hp⟩
  ·rw [h] at h0
   cases h0
  ·rw [h] at hl
   cases hl
   rcases hp with ⟨_, h2, h3⟩ | ⟨hn, _⟩
   ·exact ⟨h2, h3⟩
   ·exact absurd rfl hn
theorem c_nums10L (s sep : ByteArray) (hs : s.size ≤ 1000) (h1 : 1 ≤ sep.size) (l : List Int) (hn : l ≠ []) (h : nbs 10 255 s sep = some l) (w : World) (hL : Laid w) : Calls Tryz.prog 218 #[.string s, .string sep, .int .i64 10, .int .i64 8] w fun r w' => ∃ g cap Z, r = .returned (.tuple #[.slice (some ⟨g, 0, none⟩) l.length cap, .bool true]) ∧ w.heap.size ≤ g ∧ w'.heap[g]? = some Z ∧ SB Z cap (v16 l) ∧ Below w.heap.size w w' :=
 (c_nums10 s sep hs h1 w hL).mono fun _ _ hp => by
  rcases hp with ⟨h0, _⟩ | ⟨l', hl, hp⟩
  ·rw [h] at h0
   cases h0
  ·rw [h] at hl
   cases hl
   rcases hp with ⟨h2, _⟩ | ⟨_, hp⟩
   ·exact absurd h2 hn
   ·exact hp
theorem c_nums16N (s sep : ByteArray) (hs : s.size ≤ 1000) (h1 : 1 ≤ sep.size) (h : nbs 16 65535 s sep = none) (w : World) (hL : Laid w) : Calls Tryz.prog 218 #[.string s, .string sep, .int .i64 16, .int .i64 16] w fun r w' => r = .returned (.tuple #[.slice none 0 0, .bool false]) ∧ Below w.heap.size w w' :=
 (c_nums16 s sep hs h1 w hL).mono fun _ _ hp => by
  rcases hp with ⟨_, h2, h3⟩ | ⟨l, hl, _⟩
  ·exact ⟨h2, h3⟩
  ·rw [h] at hl
   cases hl
theorem c_nums16E (s sep : ByteArray) (hs : s.size ≤ 1000) (h1 : 1 ≤ sep.size) (h : nbs 16 65535 s sep = some []) (w : World) (hL : Laid w) : Calls Tryz.prog 218 #[.string s, .string sep, .int .i64 16, .int .i64 16] w fun r w' => r = .returned (.tuple #[.slice none 0 0, .bool true]) ∧ Below w.heap.size w w' :=
 (c_nums16 s sep hs h1 w hL).mono fun _ _ hp => by
  rcases hp with ⟨h0, _⟩ | ⟨l, hl, hp⟩
  ·rw [h] at h0
   cases h0
  ·rw [h] at hl
   cases hl
   rcases hp with ⟨_, h2, h3⟩ | ⟨hn, _⟩
   ·exact ⟨h2, h3⟩
   ·exact absurd rfl hn
theorem c_nums16L (s sep : ByteArray) (hs : s.size ≤ 1000) (h1 : 1 ≤ sep.size) (l : List Int) (hn : l ≠ []) (h : nbs 16 65535 s sep = some l) (w : World) (hL : Laid w) : Calls Tryz.prog 218 #[.string s, .string sep, .int .i64 16, .int .i64 16] w fun r w' => ∃ g cap Z, r = .returned (.tuple #[.slice (some ⟨g, 0, none⟩) l.length cap, .bool true]) ∧ w.heap.size ≤ g ∧ w'.heap[g]? = some Z ∧ SB Z cap (v16 l) ∧ Below w.heap.size w w' :=
 (c_nums16 s sep hs h1 w hL).mono fun _ _ hp => by
  rcases hp with ⟨h0, _⟩ | ⟨l', hl, hp⟩
  ·rw [h] at h0
   cases h0
  ·rw [h] at hl
   cases hl
   rcases hp with ⟨h2, _⟩ | ⟨_, hp⟩
   ·exact absurd h2 hn
   ·exact hp
end Go.Proofs.YtbdgncndhnnjoaaGreatDoor.Ip

namespace Go.Proofs.YtbdgncndhnnjoaaGreatDoor.Ip
set_option linter.unusedSimpArgs false
open Go.RowKit
section
variable {P : Program} {ops : Array Oper} {rest : List Oper} {o : Oper} {a : Act} {w : World} {c : Ctx} {L : List Blk} {Q : Exit → Act → World → Prop}
theorem pl_callL (M : Mem c L w) (hw : Region.wanted o (yielded ops a.tmps) = true) (d : Option Tmp) (hd : o.dst = d) (f : FuncId) (args : Array Value) (v : Nat → Nat → Value) (K : Nat → Obj → Prop) (hrun : ∀ w, (execOp a.eval o).run P w = .ok (.enter f args) w)
  (hc : ∀ w, Mem c L w → Calls P f args w fun e w' => ∃ g cap Z, e = .returned (v g cap) ∧ w.heap.size ≤ g ∧ w'.heap[g]? = some Z ∧ K cap Z ∧ Below w.heap.size w w') (h : ∀ g cap Z w', K cap Z → Mem c (L ++ [⟨g, Z⟩]) w' → PL P ops Q rest (a.put d (v g cap)) w') : PL P ops Q (o :: rest) a w :=
 pl_callq hw d hd f args hrun ((hc w M).mono fun _ w' ⟨g, cap, Z, he, h1, h2, h3, hb⟩ => ⟨v g cap, he, h g cap Z w' h3 (M.new g Z hb h2 h1)⟩)
end
def q4 (l : List Int) : Nat → Int
 | 0 => 0
 | j + 1 => uo (sl (q4 l j) 8) (cv .u64 (tgi l j))
def lk4 (s : ByteArray) : Option Int := match nbs 10 255 s ⟨#[46]⟩ with
 | some l => if l.length = 4 then some (q4 l 4) else none
 | none => none
def cpl (f : Nat → Int) (od : Nat) (l : List Int) : Nat → Int := fun i => if od ≤ i ∧ i < od + l.length then tgi l (i - od) else f i
theorem cpl_w16 (f : Nat → Int) (od : Nat) (l : List Int) (j : Nat) : (if od ≤ j ∧ j < od + l.length then w16 (tgi l) (j - od) else w16 f j) = w16 (cpl f od l) j := by
 unfold w16 cpl
 split <;> rfl
theorem cpl_nil (f : Nat → Int) (od : Nat) : cpl f od [] = f := by
 funext i
 exact if_neg (by simp)
def g6 (l1 l2 : List Int) : Nat → Int := cpl (cpl (fun _ => 0) 0 l1) (8 - l2.length) l2
def lk6 (s : ByteArray) : Option (Int × Int) := match nbs 16 65535 (cuA s ⟨#[58, 58]⟩) ⟨#[58]⟩, nbs 16 65535 (cuB s ⟨#[58, 58]⟩) ⟨#[58]⟩ with
 | some l1, some l2 => if 8 < l1.length + l2.length then none else some (adH (g6 l1 l2), adL (g6 l1 l2))
 | _, _ => none
theorem cuA_le (s sep : ByteArray) : (cuA s sep).size ≤ s.size := by
 unfold cuA Lib.cut
 split
 ·show (List.take _ _).length ≤ s.data.toList.length
  rw [List.length_take]
  omega
 ·exact Nat.le_refl _
theorem cuB_le (s sep : ByteArray) : (cuB s sep).size ≤ s.size := by
 unfold cuB Lib.cut
 split
 ·show (List.drop _ _).length ≤ s.data.toList.length
  rw [List.length_drop]
  omega
 ·exact Nat.zero_le _
set_option maxRecDepth 100000 in
set_option maxHeartbeats 4000000 in
set_option linter.unusedSimpArgs false in
theorem c_likely4 (s : ByteArray) (hs : s.size ≤ 1000) (w : World) (hL : Laid w)  :
  Calls Tryz.prog 211 #[.string s] w fun r w' => r = .returned (.tuple #[.agg (av 3 (ls [.bool false, .int .u64 0, .int .u64 ((lk4 s).getD 0)])), .bool ((lk4 s).isSome)]) ∧ Below w.heap.size w w' := by
 go_enter Tryz.func211, Tryz.ntmps211
 have M := Mem.start hL
 refine wp_seq ?_
 refine rg_lit ?_
 refine pl_new M (want_no rfl) (some 2) rfl (.cells (av 3 (ls [.bool false, .int .u64 0, .int .u64 0])) 49) (fun _ => by kernel_rfl) ?_
 intro g1 u1 M
 replace M : Mem ⟨w, []⟩ [⟨g1, .cells (av 3 (ls [.bool false, .int .u64 0, .int .u64 0])) 49⟩] u1 := M
 refine pl_val (want_no rfl) (some 3) rfl (.bool false) (fun _ => by kernel_rfl) ?_
 refine pl_nil ?_
 refine au_then ?_
 refine wp_seq ?_
 refine rg_lit ?_
 refine pl_val (want_no rfl) (some 10) rfl (.string s) (fun _ => by kernel_rfl) ?_
 rcases hN1 : nbs 10 255 s ⟨#[46]⟩ with _ | l1
 ·skip
  refine pl_call M (want_no rfl) (some 11) rfl 218 #[.string s, .string ⟨#[46]⟩, .int .i64 10, .int .i64 8] (.tuple #[.slice none 0 0, .bool false]) (fun _ => by kernel_rfl) (fun w M => c_nums10N s ⟨#[46]⟩ (hs) (by decide) hN1 w M.laid) ?_
  intro u2 M
  refine pl_val (want_no rfl) (some 9) rfl (.tuple #[.slice none 0 0, .bool false]) (fun _ => by kernel_rfl) ?_
  refine pl_val (want_no rfl) (some 12) rfl (.slice none 0 0) (fun _ => by kernel_rfl) ?_
  refine pl_val (want_no rfl) (some 13) rfl (.bool false) (fun _ => by kernel_rfl) ?_
  refine pl_val (want_no rfl) (some 4) rfl (.slice none 0 0) (fun _ => by kernel_rfl) ?_
  refine pl_val (want_no rfl) (some 5) rfl (.bool false) (fun _ => by kernel_rfl) ?_
  refine pl_nil ?_
  refine au_then ?_
  refine wp_seq ?_
  refine wp_seq ?_
  refine rg_lit ?_
  refine pl_val (want_no rfl) (some 14) rfl (.bool false) (fun _ => by kernel_rfl) ?_
  refine pl_val (want_no rfl) (some 15) rfl (.bool true) (fun _ => by kernel_rfl) ?_
  refine pl_val (want_no rfl) (some 16) rfl (.bool true) (fun _ => by kernel_rfl) ?_
  refine pl_skip (want_off 2 false rfl 16 rfl (by kernel_rfl)) (some 17) rfl ?_
  refine pl_skip (want_off 2 false rfl 16 rfl (by kernel_rfl)) (some 18) rfl ?_
  refine pl_skip (want_off 2 false rfl 16 rfl (by kernel_rfl)) (some 19) rfl ?_
  refine pl_val (want_no rfl) (some 20) rfl (.bool true) (fun _ => by kernel_rfl) ?_
  refine pl_nil ?_
  refine au_then ?_
  refine wp_cond_true (by kernel_rfl) ?_
  refine wp_seq ?_
  refine rg_lit ?_
  refine pl_val (want_no rfl) (some 21) rfl (.agg (av 3 (ls [.bool false, .int .u64 0, .int .u64 0]))) (fun _ => by kernel_rfl) ?_
  refine pl_put M (want_no rfl) rfl 49 _ _ rfl 0 g1 0 (by kernel_rfl) 3 49 (ls [.bool false, .int .u64 0, .int .u64 0]) rfl 3 (ls [.bool false, .int .u64 0, .int .u64 0]) (ls [.bool false, .int .u64 0, .int .u64 0]) (by kernel_rfl) inz49 (by decide) (one_ls _ rfl) (fun j hj => by rw [if_pos (by omega), Nat.sub_zero]) ?_
  intro u3 M
  replace M : Mem ⟨w, []⟩ [⟨g1, .cells (av 3 (ls [.bool false, .int .u64 0, .int .u64 0])) 49⟩] u3 := M
  refine pl_val (want_no rfl) (some 3) rfl (.bool false) (fun _ => by kernel_rfl) ?_
  refine pl_nil ?_
  refine au_then ?_
  refine wp_ret ?_
  refine au_then_ret ?_
  have e0 : ((lk4 s).getD 0) = 0 := by rw [(show lk4 s = none by unfold lk4; rw [hN1])]; rfl
  have e1 : (lk4 s).isSome = false := by rw [(show lk4 s = none by unfold lk4; rw [hN1])]; rfl
  exact bodyPost_ret (v := .tuple #[.agg (av 3 (ls [.bool false, .int .u64 0, .int .u64 0])), .bool false]) (results_cell_tmp Tryz.results211 _ _ g1 49 (av 3 (ls [.bool false, .int .u64 0, .int .u64 0])) (0, 0) _ _ (by kernel_rfl) (by kernel_rfl) (M.get 0 rfl) Tryz.underlying49 rfl (by rw [av_size]; exact inz49)) (by kernel_rfl) ⟨by rw [e0, e1], below_grown M.old⟩
 ·skip
  by_cases he1 : l1 = []
  ·skip
   subst he1
   refine pl_call M (want_no rfl) (some 11) rfl 218 #[.string s, .string ⟨#[46]⟩, .int .i64 10, .int .i64 8] (.tuple #[.slice none 0 0, .bool true]) (fun _ => by kernel_rfl) (fun w M => c_nums10E s ⟨#[46]⟩ (hs) (by decide) hN1 w M.laid) ?_
   intro u2 M
   refine pl_val (want_no rfl) (some 9) rfl (.tuple #[.slice none 0 0, .bool true]) (fun _ => by kernel_rfl) ?_
   refine pl_val (want_no rfl) (some 12) rfl (.slice none 0 0) (fun _ => by kernel_rfl) ?_
   refine pl_val (want_no rfl) (some 13) rfl (.bool true) (fun _ => by kernel_rfl) ?_
   refine pl_val (want_no rfl) (some 4) rfl (.slice none 0 0) (fun _ => by kernel_rfl) ?_
   refine pl_val (want_no rfl) (some 5) rfl (.bool true) (fun _ => by kernel_rfl) ?_
   refine pl_nil ?_
   refine au_then ?_
   refine wp_seq ?_
   refine wp_seq ?_
   refine rg_lit ?_
   refine pl_val (want_no rfl) (some 14) rfl (.bool true) (fun _ => by kernel_rfl) ?_
   refine pl_val (want_no rfl) (some 15) rfl (.bool false) (fun _ => by kernel_rfl) ?_
   refine pl_val (want_no rfl) (some 16) rfl (.bool false) (fun _ => by kernel_rfl) ?_
   refine pl_val (want_on 2 false rfl 16 rfl (by kernel_rfl)) (some 17) rfl (.slice none 0 0) (fun _ => by kernel_rfl) ?_
   refine pl_val (want_on 2 false rfl 16 rfl (by kernel_rfl)) (some 18) rfl (.int .i64 0) (fun _ => by kernel_rfl) ?_
   refine pl_val (want_on 2 false rfl 16 rfl (by kernel_rfl)) (some 19) rfl (.bool true) (fun _ => by kernel_rfl) ?_
   refine pl_val (want_no rfl) (some 20) rfl (.bool true) (fun _ => by kernel_rfl) ?_
   refine pl_nil ?_
   refine au_then ?_
   refine wp_cond_true (by kernel_rfl) ?_
   refine wp_seq ?_
   refine rg_lit ?_
   refine pl_val (want_no rfl) (some 21) rfl (.agg (av 3 (ls [.bool false, .int .u64 0, .int .u64 0]))) (fun _ => by kernel_rfl) ?_
   refine pl_put M (want_no rfl) rfl 49 _ _ rfl 0 g1 0 (by kernel_rfl) 3 49 (ls [.bool false, .int .u64 0, .int .u64 0]) rfl 3 (ls [.bool false, .int .u64 0, .int .u64 0]) (ls [.bool false, .int .u64 0, .int .u64 0]) (by kernel_rfl) inz49 (by decide) (one_ls _ rfl) (fun j hj => by rw [if_pos (by omega), Nat.sub_zero]) ?_
   intro u3 M
   replace M : Mem ⟨w, []⟩ [⟨g1, .cells (av 3 (ls [.bool false, .int .u64 0, .int .u64 0])) 49⟩] u3 := M
   refine pl_val (want_no rfl) (some 3) rfl (.bool false) (fun _ => by kernel_rfl) ?_
   refine pl_nil ?_
   refine au_then ?_
   refine wp_ret ?_
   refine au_then_ret ?_
   have e0 : ((lk4 s).getD 0) = 0 := by rw [(show lk4 s = none by unfold lk4; rw [hN1]; rfl)]; rfl
   have e1 : (lk4 s).isSome = false := by rw [(show lk4 s = none by unfold lk4; rw [hN1]; rfl)]; rfl
   exact bodyPost_ret (v := .tuple #[.agg (av 3 (ls [.bool false, .int .u64 0, .int .u64 0])), .bool false]) (results_cell_tmp Tryz.results211 _ _ g1 49 (av 3 (ls [.bool false, .int .u64 0, .int .u64 0])) (0, 0) _ _ (by kernel_rfl) (by kernel_rfl) (M.get 0 rfl) Tryz.underlying49 rfl (by rw [av_size]; exact inz49)) (by kernel_rfl) ⟨by rw [e0, e1], below_grown M.old⟩
  ·skip
   refine pl_callL M (want_no rfl) (some 11) rfl 218 #[.string s, .string ⟨#[46]⟩, .int .i64 10, .int .i64 8] (fun g cap => .tuple #[.slice (some ⟨g, 0, none⟩) l1.length cap, .bool true]) (fun cap Z => SB Z cap (v16 l1)) (fun _ => by kernel_rfl) (fun w M => c_nums10L s ⟨#[46]⟩ (hs) (by decide) l1 he1 hN1 w M.laid) ?_
   intro gl1 cp1 Z1 u2 hZ1 M
   replace M : Mem ⟨w, []⟩ [⟨g1, .cells (av 3 (ls [.bool false, .int .u64 0, .int .u64 0])) 49⟩, ⟨gl1, Z1⟩] u2 := M
   refine pl_val (want_no rfl) (some 9) rfl (.tuple #[.slice (some ⟨gl1, 0, none⟩) l1.length cp1, .bool true]) (fun _ => by kernel_rfl) ?_
   refine pl_val (want_no rfl) (some 12) rfl (.slice (some ⟨gl1, 0, none⟩) l1.length cp1) (fun _ => by kernel_rfl) ?_
   refine pl_val (want_no rfl) (some 13) rfl (.bool true) (fun _ => by kernel_rfl) ?_
   refine pl_val (want_no rfl) (some 4) rfl (.slice (some ⟨gl1, 0, none⟩) l1.length cp1) (fun _ => by kernel_rfl) ?_
   refine pl_val (want_no rfl) (some 5) rfl (.bool true) (fun _ => by kernel_rfl) ?_
   refine pl_nil ?_
   refine au_then ?_
   refine wp_seq ?_
   refine wp_seq ?_
   refine rg_lit ?_
   refine pl_val (want_no rfl) (some 14) rfl (.bool true) (fun _ => by kernel_rfl) ?_
   refine pl_val (want_no rfl) (some 15) rfl (.bool false) (fun _ => by kernel_rfl) ?_
   refine pl_val (want_no rfl) (some 16) rfl (.bool false) (fun _ => by kernel_rfl) ?_
   refine pl_val (want_on 2 false rfl 16 rfl (by kernel_rfl)) (some 17) rfl (.slice (some ⟨gl1, 0, none⟩) l1.length cp1) (fun _ => by kernel_rfl) ?_
   refine pl_val (want_on 2 false rfl 16 rfl (by kernel_rfl)) (some 18) rfl (.int .i64 ((l1.length : Nat) : Int)) (fun _ => by kernel_rfl) ?_
   by_cases c2 : ((l1.length : Nat) : Int) = 4
   ·skip
    refine pl_val (want_on 2 false rfl 16 rfl (by kernel_rfl)) (some 19) rfl (.bool false) (fun w => Eq.trans (b := .ok (.value (.bool (!(decide (((l1.length : Nat) : Int) = 4))))) w) (by kernel_rfl) (by rw [decide_eq_true (c2)]; rfl)) ?_
    refine pl_val (want_no rfl) (some 20) rfl (.bool false) (fun _ => by kernel_rfl) ?_
    refine pl_nil ?_
    refine au_then ?_
    refine wp_cond_false (by kernel_rfl) ?_
    refine wp_skip ?_
    refine au_then ?_
    refine wp_seq ?_
    refine rg_lit ?_
    refine pl_new M (want_no rfl) (some 6) rfl (.cells (av 3 (ls [.bool false, .int .u64 0, .int .u64 0])) 49) (fun _ => by kernel_rfl) ?_
    intro g2 u3 M
    replace M : Mem ⟨w, []⟩ [⟨g1, .cells (av 3 (ls [.bool false, .int .u64 0, .int .u64 0])) 49⟩, ⟨gl1, Z1⟩, ⟨g2, .cells (av 3 (ls [.bool false, .int .u64 0, .int .u64 0])) 49⟩] u3 := M
    refine pl_nil ?_
    refine au_then ?_
    refine wp_seq ?_
    refine wp_seq ?_
    refine rg_lit ?_
    refine pl_val (want_no rfl) (some 22) rfl (.slice (some ⟨gl1, 0, none⟩) l1.length cp1) (fun _ => by kernel_rfl) ?_
    refine pl_val (want_no rfl) (some 23) rfl (.int .i64 ((l1.length : Nat) : Int)) (fun _ => by kernel_rfl) ?_
    refine pl_val (want_no rfl) (some 24) rfl (.int .i64 0) (fun _ => by kernel_rfl) ?_
    refine pl_nil ?_
    refine au_then ?_
    refine wp_block ?_
    refine au_loop (fun j a w' => ∃ v1 : Nat → Value, a = ⟨#[.string s, undef, .pointer (some ⟨g1, 0, none⟩), .bool false, .slice (some ⟨gl1, 0, none⟩) l1.length cp1, .bool true, .pointer (some ⟨g2, 0, none⟩), undef, v1 8, .tuple #[.slice (some ⟨gl1, 0, none⟩) l1.length cp1, .bool true], .string s, .tuple #[.slice (some ⟨gl1, 0, none⟩) l1.length cp1, .bool true], .slice (some ⟨gl1, 0, none⟩) l1.length cp1, .bool true, .bool true, .bool false, .bool false, .slice (some ⟨gl1, 0, none⟩) l1.length cp1, .int .i64 ((l1.length : Nat) : Int), .bool false, .bool false, undef, .slice (some ⟨gl1, 0, none⟩) l1.length cp1, .int .i64 ((l1.length : Nat) : Int), .int .i64 (j : Int), v1 25, v1 26, v1 27, v1 28, v1 29, v1 30, v1 31, v1 32, v1 33, v1 34, v1 35, undef], []⟩ ∧ Mem ⟨w, []⟩ [⟨g1, .cells (av 3 (ls [.bool false, .int .u64 0, .int .u64 0])) 49⟩, ⟨gl1, Z1⟩, ⟨g2, .cells (av 3 (ls [.bool false, .int .u64 0, .int .u64 (q4 l1 j)])) 49⟩] w') 4 ⟨fun k_ => ([undef, undef, undef, undef, undef, undef, undef, undef, undef, undef, undef, undef, undef, undef, undef, undef, undef, undef, undef, undef, undef, undef, undef, undef, undef, undef, undef, undef] : List Value).getD (k_ - 8) undef, by kernel_rfl, M⟩ ?_ ?_
    ·intro j a u0 hj hI
     obtain ⟨v1, rfl, M⟩ := hI
     refine wp_seq ?_
     refine rg_lit ?_
     refine pl_val (want_no rfl) (some 25) rfl (.bool true) (fun w => Eq.trans (b := .ok (.value (.bool (decide ((j : Int) < ((l1.length : Nat) : Int))))) w) (by kernel_rfl) (by rw [decide_eq_true (by omega)])) ?_
     refine pl_nil ?_
     refine au_then ?_
     refine wp_seq ?_
     refine wp_cond_true (by kernel_rfl) ?_
     refine wp_skip ?_
     refine au_then ?_
     refine wp_seq ?_
     refine wp_block ?_
     refine wp_seq ?_
     refine rg_lit ?_
     refine pl_val (want_no rfl) (some 26) rfl (.pointer (some ⟨gl1, j, none⟩)) (run_ix0 193 101 Tryz.underlying193 inz101 _ _ rfl gl1 l1.length cp1 (by kernel_rfl) .i64 j (by kernel_rfl) (by omega)) ?_
     refine pl_cell M (want_no rfl) (some 27) rfl 101 _ rfl gl1 j (by kernel_rfl) (.int .u16 (tgi l1 j)) (fun _ => by kernel_rfl) (fun w M => hZ1.cell (M.get 1 rfl) (v16_at _ _ (by omega))) ?_
     refine pl_val (want_no rfl) (some 8) rfl (.int .u16 (tgi l1 j)) (fun _ => by kernel_rfl) ?_
     refine pl_nil ?_
     refine au_then ?_
     refine rg_lit ?_
     refine pl_val (want_no rfl) (some 28) rfl (.pointer (some ⟨g2, 2, none⟩)) (fun _ => by kernel_rfl) ?_
     refine pl_cell M (want_no rfl) (some 29) rfl 47 _ rfl g2 2 (by kernel_rfl) (.int .u64 (q4 l1 j)) (fun _ => by kernel_rfl) (fun w M => M.cell 2 rfl (by decide) rfl) ?_
     refine pl_val (want_no rfl) (some 30) rfl (.int .u64 (sl (q4 l1 j) 8)) (fun _ => by kernel_rfl) ?_
     refine pl_val (want_no rfl) (some 31) rfl (.int .u16 (tgi l1 j)) (fun _ => by kernel_rfl) ?_
     refine pl_val (want_no rfl) (some 32) rfl (.int .u64 (cv .u64 (tgi l1 j))) (fun _ => by kernel_rfl) ?_
     refine pl_val (want_no rfl) (some 33) rfl (.int .u64 (uo (sl (q4 l1 j) 8) (cv .u64 (tgi l1 j)))) (fun _ => by kernel_rfl) ?_
     refine pl_val (want_no rfl) (some 34) rfl (.pointer (some ⟨g2, 2, none⟩)) (fun _ => by kernel_rfl) ?_
     refine pl_put1 M (want_no rfl) rfl 47 _ _ rfl 2 g2 2 (by kernel_rfl) 3 49 (ls [.bool false, .int .u64 0, .int .u64 (q4 l1 j)]) rfl (.int .u64 (uo (sl (q4 l1 j) 8) (cv .u64 (tgi l1 j)))) (ls [.bool false, .int .u64 0, .int .u64 (uo (sl (q4 l1 j) 8) (cv .u64 (tgi l1 j)))]) (by kernel_rfl) inz47 (by decide) rfl rfl (put_ls _ 2 _ _ rfl) ?_
     intro u4 M
     replace M : Mem ⟨w, []⟩ [⟨g1, .cells (av 3 (ls [.bool false, .int .u64 0, .int .u64 0])) 49⟩, ⟨gl1, Z1⟩, ⟨g2, .cells (av 3 (ls [.bool false, .int .u64 0, .int .u64 (uo (sl (q4 l1 j) 8) (cv .u64 (tgi l1 j)))])) 49⟩] u4 := M
     refine pl_nil ?_
     refine au_block ?_
     refine au_then ?_
     refine rg_lit ?_
     refine pl_val (want_no rfl) (some 35) rfl (.int .i64 ((j + 1 : Nat) : Int)) (fun w => Eq.trans (b := .ok (.value (.int .i64 (IntKind.wrap .i64 ((j : Int) + 1)))) w) (by kernel_rfl) (by rw [wrap64 (by omega) (by omega)]; congr 3)) ?_
     refine pl_val (want_no rfl) (some 24) rfl (.int .i64 ((j + 1 : Nat) : Int)) (fun _ => by kernel_rfl) ?_
     refine pl_nil ?_
     refine au_then ?_
     exact ⟨fun k_ => ([.int .u16 (tgi l1 j), undef, undef, undef, undef, undef, undef, undef, undef, undef, undef, undef, undef, undef, undef, undef, undef, .bool true, .pointer (some ⟨gl1, j, none⟩), .int .u16 (tgi l1 j), .pointer (some ⟨g2, 2, none⟩), .int .u64 (q4 l1 j), .int .u64 (sl (q4 l1 j) 8), .int .u16 (tgi l1 j), .int .u64 (cv .u64 (tgi l1 j)), .int .u64 (uo (sl (q4 l1 j) 8) (cv .u64 (tgi l1 j))), .pointer (some ⟨g2, 2, none⟩), .int .i64 ((j + 1 : Nat) : Int)] : List Value).getD (k_ - 8) undef, by kernel_rfl, M⟩
    ·intro a u0 hI
     obtain ⟨v1, rfl, M⟩ := hI
     refine wp_seq ?_
     refine rg_lit ?_
     refine pl_val (want_no rfl) (some 25) rfl (.bool false) (fun w => Eq.trans (b := .ok (.value (.bool (decide ((4 : Int) < ((l1.length : Nat) : Int))))) w) (by kernel_rfl) (by rw [decide_eq_false (by omega)])) ?_
     refine pl_nil ?_
     refine au_then ?_
     refine wp_seq ?_
     refine wp_cond_false (by kernel_rfl) ?_
     refine wp_exit ?_
     refine au_then_exit ?_
     refine au_then_exit ?_
     refine au_block_exit ?_
     refine au_then ?_
     refine wp_seq ?_
     refine rg_lit ?_
     refine pl_load M (want_no rfl) (some 36) rfl 49 _ rfl 2 g2 0 (by kernel_rfl) 3 49 (ls [.bool false, .int .u64 0, .int .u64 (q4 l1 4)]) rfl 3 (ls [.bool false, .int .u64 0, .int .u64 (q4 l1 4)]) (fun j _ => by rw [Nat.zero_add]) (by decide) _ Tryz.underlying49 rfl inz49 ?_
     refine pl_put M (want_no rfl) rfl 49 _ _ rfl 0 g1 0 (by kernel_rfl) 3 49 (ls [.bool false, .int .u64 0, .int .u64 0]) rfl 3 (ls [.bool false, .int .u64 0, .int .u64 (q4 l1 4)]) (ls [.bool false, .int .u64 0, .int .u64 (q4 l1 4)]) (by kernel_rfl) inz49 (by decide) (one_ls _ rfl) (fun j hj => by rw [if_pos (by omega), Nat.sub_zero]) ?_
     intro u4 M
     replace M : Mem ⟨w, []⟩ [⟨g1, .cells (av 3 (ls [.bool false, .int .u64 0, .int .u64 (q4 l1 4)])) 49⟩, ⟨gl1, Z1⟩, ⟨g2, .cells (av 3 (ls [.bool false, .int .u64 0, .int .u64 (q4 l1 4)])) 49⟩] u4 := M
     refine pl_val (want_no rfl) (some 3) rfl (.bool true) (fun _ => by kernel_rfl) ?_
     refine pl_nil ?_
     refine au_then ?_
     refine wp_ret ?_
     have e0 : ((lk4 s).getD 0) = (q4 l1 4) := by rw [(show lk4 s = some (q4 l1 4) by unfold lk4; rw [hN1]; exact if_pos (by omega))]; rfl
     have e1 : (lk4 s).isSome = true := by rw [(show lk4 s = some (q4 l1 4) by unfold lk4; rw [hN1]; exact if_pos (by omega))]; rfl
     exact bodyPost_ret (v := .tuple #[.agg (av 3 (ls [.bool false, .int .u64 0, .int .u64 (q4 l1 4)])), .bool true]) (results_cell_tmp Tryz.results211 _ _ g1 49 (av 3 (ls [.bool false, .int .u64 0, .int .u64 (q4 l1 4)])) (0, 0) _ _ (by kernel_rfl) (by kernel_rfl) (M.get 0 rfl) Tryz.underlying49 rfl (by rw [av_size]; exact inz49)) (by kernel_rfl) ⟨by rw [e0, e1], below_grown M.old⟩
   ·skip
    refine pl_val (want_on 2 false rfl 16 rfl (by kernel_rfl)) (some 19) rfl (.bool true) (fun w => Eq.trans (b := .ok (.value (.bool (!(decide (((l1.length : Nat) : Int) = 4))))) w) (by kernel_rfl) (by rw [decide_eq_false (c2)]; rfl)) ?_
    refine pl_val (want_no rfl) (some 20) rfl (.bool true) (fun _ => by kernel_rfl) ?_
    refine pl_nil ?_
    refine au_then ?_
    refine wp_cond_true (by kernel_rfl) ?_
    refine wp_seq ?_
    refine rg_lit ?_
    refine pl_val (want_no rfl) (some 21) rfl (.agg (av 3 (ls [.bool false, .int .u64 0, .int .u64 0]))) (fun _ => by kernel_rfl) ?_
    refine pl_put M (want_no rfl) rfl 49 _ _ rfl 0 g1 0 (by kernel_rfl) 3 49 (ls [.bool false, .int .u64 0, .int .u64 0]) rfl 3 (ls [.bool false, .int .u64 0, .int .u64 0]) (ls [.bool false, .int .u64 0, .int .u64 0]) (by kernel_rfl) inz49 (by decide) (one_ls _ rfl) (fun j hj => by rw [if_pos (by omega), Nat.sub_zero]) ?_
    intro u3 M
    replace M : Mem ⟨w, []⟩ [⟨g1, .cells (av 3 (ls [.bool false, .int .u64 0, .int .u64 0])) 49⟩, ⟨gl1, Z1⟩] u3 := M
    refine pl_val (want_no rfl) (some 3) rfl (.bool false) (fun _ => by kernel_rfl) ?_
    refine pl_nil ?_
    refine au_then ?_
    refine wp_ret ?_
    refine au_then_ret ?_
    have e0 : ((lk4 s).getD 0) = 0 := by rw [(show lk4 s = none by unfold lk4; rw [hN1]; exact if_neg (by omega))]; rfl
    have e1 : (lk4 s).isSome = false := by rw [(show lk4 s = none by unfold lk4; rw [hN1]; exact if_neg (by omega))]; rfl
    exact bodyPost_ret (v := .tuple #[.agg (av 3 (ls [.bool false, .int .u64 0, .int .u64 0])), .bool false]) (results_cell_tmp Tryz.results211 _ _ g1 49 (av 3 (ls [.bool false, .int .u64 0, .int .u64 0])) (0, 0) _ _ (by kernel_rfl) (by kernel_rfl) (M.get 0 rfl) Tryz.underlying49 rfl (by rw [av_size]; exact inz49)) (by kernel_rfl) ⟨by rw [e0, e1], below_grown M.old⟩
theorem nbs_len {b m : Int} {s sep : ByteArray} {l : List Int} (hs : s.size ≤ 1000) (h1 : 1 ≤ sep.size) (h : nbs b m s sep = some l) : l.length ≤ 1001 := by
 unfold nbs at h
 split at h
 ·cases h
  decide
 ·have := nl_len h
  have := spl_le s sep h1
  omega
set_option maxRecDepth 100000 in
set_option maxHeartbeats 4000000 in
set_option linter.unusedSimpArgs false in
theorem c_likely6 (s : ByteArray) (hs : s.size ≤ 1000) (w : World) (hL : Laid w)  :
  Calls Tryz.prog 210 #[.string s] w fun r w' => r = .returned (.tuple #[.agg (av 3 (ls [.bool ((lk6 s).isSome), .int .u64 ((lk6 s).getD (0, 0)).1, .int .u64 ((lk6 s).getD (0, 0)).2])), .bool ((lk6 s).isSome)]) ∧ Below w.heap.size w w' := by
 go_enter Tryz.func210, Tryz.ntmps210
 have M := Mem.start hL
 have hl1 : ∀ l, nbs 16 65535 (cuA s ⟨#[58, 58]⟩) ⟨#[58]⟩ = some l → l.length ≤ 1001 := fun l h => nbs_len (by have := cuA_le s ⟨#[58, 58]⟩; omega) (by decide) h
 have hl2 : ∀ l, nbs 16 65535 (cuB s ⟨#[58, 58]⟩) ⟨#[58]⟩ = some l → l.length ≤ 1001 := fun l h => nbs_len (by have := cuB_le s ⟨#[58, 58]⟩; omega) (by decide) h
 refine wp_seq ?_
 refine rg_lit ?_
 refine pl_new M (want_no rfl) (some 2) rfl (.cells (av 3 (ls [.bool false, .int .u64 0, .int .u64 0])) 49) (fun _ => by kernel_rfl) ?_
 intro g1 u1 M
 replace M : Mem ⟨w, []⟩ [⟨g1, .cells (av 3 (ls [.bool false, .int .u64 0, .int .u64 0])) 49⟩] u1 := M
 refine pl_val (want_no rfl) (some 3) rfl (.bool false) (fun _ => by kernel_rfl) ?_
 refine pl_nil ?_
 refine au_then ?_
 refine wp_seq ?_
 refine rg_lit ?_
 refine pl_val (want_no rfl) (some 13) rfl (.string s) (fun _ => by kernel_rfl) ?_
 refine pl_call M (want_no rfl) (some 14) rfl 163 #[.string s, .string ⟨#[58, 58]⟩] (.tuple #[.string (cuA s ⟨#[58, 58]⟩), .string (cuB s ⟨#[58, 58]⟩), .bool (cuC s ⟨#[58, 58]⟩)]) (fun _ => by kernel_rfl) (fun w M => c_Cut s ⟨#[58, 58]⟩ (by omega) w M.laid) ?_
 intro u2 M
 refine pl_val (want_no rfl) (some 12) rfl (.tuple #[.string (cuA s ⟨#[58, 58]⟩), .string (cuB s ⟨#[58, 58]⟩), .bool (cuC s ⟨#[58, 58]⟩)]) (fun _ => by kernel_rfl) ?_
 refine pl_val (want_no rfl) (some 15) rfl (.string (cuA s ⟨#[58, 58]⟩)) (fun _ => by kernel_rfl) ?_
 refine pl_val (want_no rfl) (some 16) rfl (.string (cuB s ⟨#[58, 58]⟩)) (fun _ => by kernel_rfl) ?_
 refine pl_val (want_no rfl) (some 17) rfl (.bool (cuC s ⟨#[58, 58]⟩)) (fun _ => by kernel_rfl) ?_
 refine pl_val (want_no rfl) (some 4) rfl (.string (cuA s ⟨#[58, 58]⟩)) (fun _ => by kernel_rfl) ?_
 refine pl_val (want_no rfl) (some 5) rfl (.string (cuB s ⟨#[58, 58]⟩)) (fun _ => by kernel_rfl) ?_
 refine pl_val (want_no rfl) (some 6) rfl (.bool (cuC s ⟨#[58, 58]⟩)) (fun _ => by kernel_rfl) ?_
 refine pl_nil ?_
 refine au_then ?_
 refine wp_seq ?_
 refine rg_lit ?_
 refine pl_val (want_no rfl) (some 19) rfl (.string (cuA s ⟨#[58, 58]⟩)) (fun _ => by kernel_rfl) ?_
 rcases hN1 : nbs 16 65535 (cuA s ⟨#[58, 58]⟩) ⟨#[58]⟩ with _ | l1
 ·skip
  refine pl_call M (want_no rfl) (some 20) rfl 218 #[.string (cuA s ⟨#[58, 58]⟩), .string ⟨#[58]⟩, .int .i64 16, .int .i64 16] (.tuple #[.slice none 0 0, .bool false]) (fun _ => by kernel_rfl) (fun w M => c_nums16N (cuA s ⟨#[58, 58]⟩) ⟨#[58]⟩ (by have := cuA_le s ⟨#[58, 58]⟩; omega) (by decide) hN1 w M.laid) ?_
  intro u3 M
  refine pl_val (want_no rfl) (some 18) rfl (.tuple #[.slice none 0 0, .bool false]) (fun _ => by kernel_rfl) ?_
  refine pl_val (want_no rfl) (some 21) rfl (.slice none 0 0) (fun _ => by kernel_rfl) ?_
  refine pl_val (want_no rfl) (some 22) rfl (.bool false) (fun _ => by kernel_rfl) ?_
  refine pl_val (want_no rfl) (some 7) rfl (.slice none 0 0) (fun _ => by kernel_rfl) ?_
  refine pl_val (want_no rfl) (some 8) rfl (.bool false) (fun _ => by kernel_rfl) ?_
  refine pl_nil ?_
  refine au_then ?_
  refine wp_seq ?_
  refine rg_lit ?_
  refine pl_val (want_no rfl) (some 24) rfl (.string (cuB s ⟨#[58, 58]⟩)) (fun _ => by kernel_rfl) ?_
  rcases hN2 : nbs 16 65535 (cuB s ⟨#[58, 58]⟩) ⟨#[58]⟩ with _ | l2
  ·skip
   refine pl_call M (want_no rfl) (some 25) rfl 218 #[.string (cuB s ⟨#[58, 58]⟩), .string ⟨#[58]⟩, .int .i64 16, .int .i64 16] (.tuple #[.slice none 0 0, .bool false]) (fun _ => by kernel_rfl) (fun w M => c_nums16N (cuB s ⟨#[58, 58]⟩) ⟨#[58]⟩ (by have := cuB_le s ⟨#[58, 58]⟩; omega) (by decide) hN2 w M.laid) ?_
   intro u4 M
   refine pl_val (want_no rfl) (some 23) rfl (.tuple #[.slice none 0 0, .bool false]) (fun _ => by kernel_rfl) ?_
   refine pl_val (want_no rfl) (some 26) rfl (.slice none 0 0) (fun _ => by kernel_rfl) ?_
   refine pl_val (want_no rfl) (some 27) rfl (.bool false) (fun _ => by kernel_rfl) ?_
   refine pl_val (want_no rfl) (some 9) rfl (.slice none 0 0) (fun _ => by kernel_rfl) ?_
   refine pl_val (want_no rfl) (some 10) rfl (.bool false) (fun _ => by kernel_rfl) ?_
   refine pl_nil ?_
   refine au_then ?_
   refine wp_seq ?_
   refine rg_lit ?_
   refine pl_new M (want_no rfl) (some 11) rfl (.cells (av 8 (w16 (fun _ => 0))) 188) (fun _ => by kernel_rfl) ?_
   intro g2 u5 M
   replace M : Mem ⟨w, []⟩ [⟨g1, .cells (av 3 (ls [.bool false, .int .u64 0, .int .u64 0])) 49⟩, ⟨g2, .cells (av 8 (w16 (fun _ => 0))) 188⟩] u5 := M
   refine pl_nil ?_
   refine au_then ?_
   refine wp_seq ?_
   refine wp_seq ?_
   refine rg_lit ?_
   refine pl_val (want_no rfl) (some 28) rfl (.bool false) (fun _ => by kernel_rfl) ?_
   refine pl_val (want_no rfl) (some 29) rfl (.bool true) (fun _ => by kernel_rfl) ?_
   refine pl_val (want_no rfl) (some 30) rfl (.bool true) (fun _ => by kernel_rfl) ?_
   refine pl_skip (want_off 2 false rfl 30 rfl (by kernel_rfl)) (some 31) rfl ?_
   refine pl_skip (want_off 2 false rfl 30 rfl (by kernel_rfl)) (some 32) rfl ?_
   refine pl_val (want_no rfl) (some 33) rfl (.bool true) (fun _ => by kernel_rfl) ?_
   refine pl_val (want_no rfl) (some 34) rfl (.bool true) (fun _ => by kernel_rfl) ?_
   refine pl_skip (want_off 6 false rfl 34 rfl (by kernel_rfl)) (some 35) rfl ?_
   refine pl_skip (want_off 6 false rfl 34 rfl (by kernel_rfl)) (some 36) rfl ?_
   refine pl_skip (want_off 6 false rfl 34 rfl (by kernel_rfl)) (some 37) rfl ?_
   refine pl_skip (want_off 6 false rfl 34 rfl (by kernel_rfl)) (some 38) rfl ?_
   refine pl_skip (want_off 6 false rfl 34 rfl (by kernel_rfl)) (some 39) rfl ?_
   refine pl_skip (want_off 6 false rfl 34 rfl (by kernel_rfl)) (some 40) rfl ?_
   refine pl_val (want_no rfl) (some 41) rfl (.bool true) (fun _ => by kernel_rfl) ?_
   refine pl_nil ?_
   refine au_then ?_
   refine wp_cond_true (by kernel_rfl) ?_
   refine wp_seq ?_
   refine rg_lit ?_
   refine pl_val (want_no rfl) (some 42) rfl (.agg (av 3 (ls [.bool false, .int .u64 0, .int .u64 0]))) (fun _ => by kernel_rfl) ?_
   refine pl_put M (want_no rfl) rfl 49 _ _ rfl 0 g1 0 (by kernel_rfl) 3 49 (ls [.bool false, .int .u64 0, .int .u64 0]) rfl 3 (ls [.bool false, .int .u64 0, .int .u64 0]) (ls [.bool false, .int .u64 0, .int .u64 0]) (by kernel_rfl) inz49 (by decide) (one_ls _ rfl) (fun j hj => by rw [if_pos (by omega), Nat.sub_zero]) ?_
   intro u6 M
   replace M : Mem ⟨w, []⟩ [⟨g1, .cells (av 3 (ls [.bool false, .int .u64 0, .int .u64 0])) 49⟩, ⟨g2, .cells (av 8 (w16 (fun _ => 0))) 188⟩] u6 := M
   refine pl_val (want_no rfl) (some 3) rfl (.bool false) (fun _ => by kernel_rfl) ?_
   refine pl_nil ?_
   refine au_then ?_
   refine wp_ret ?_
   refine au_then_ret ?_
   have e0 : (lk6 s).isSome = false := by rw [(show lk6 s = none by unfold lk6; rw [hN1, hN2])]; rfl
   have e1 : ((lk6 s).getD (0, 0)).1 = 0 := by rw [(show lk6 s = none by unfold lk6; rw [hN1, hN2])]; rfl
   have e2 : ((lk6 s).getD (0, 0)).2 = 0 := by rw [(show lk6 s = none by unfold lk6; rw [hN1, hN2])]; rfl
   exact bodyPost_ret (v := .tuple #[.agg (av 3 (ls [.bool false, .int .u64 0, .int .u64 0])), .bool false]) (results_cell_tmp Tryz.results210 _ _ g1 49 (av 3 (ls [.bool false, .int .u64 0, .int .u64 0])) (0, 0) _ _ (by kernel_rfl) (by kernel_rfl) (M.get 0 rfl) Tryz.underlying49 rfl (by rw [av_size]; exact inz49)) (by kernel_rfl) ⟨by rw [e0, e1, e2], below_grown M.old⟩
  ·skip
   by_cases he2 : l2 = []
   ·skip
    subst he2
    refine pl_call M (want_no rfl) (some 25) rfl 218 #[.string (cuB s ⟨#[58, 58]⟩), .string ⟨#[58]⟩, .int .i64 16, .int .i64 16] (.tuple #[.slice none 0 0, .bool true]) (fun _ => by kernel_rfl) (fun w M => c_nums16E (cuB s ⟨#[58, 58]⟩) ⟨#[58]⟩ (by have := cuB_le s ⟨#[58, 58]⟩; omega) (by decide) hN2 w M.laid) ?_
    intro u4 M
    refine pl_val (want_no rfl) (some 23) rfl (.tuple #[.slice none 0 0, .bool true]) (fun _ => by kernel_rfl) ?_
    refine pl_val (want_no rfl) (some 26) rfl (.slice none 0 0) (fun _ => by kernel_rfl) ?_
    refine pl_val (want_no rfl) (some 27) rfl (.bool true) (fun _ => by kernel_rfl) ?_
    refine pl_val (want_no rfl) (some 9) rfl (.slice none 0 0) (fun _ => by kernel_rfl) ?_
    refine pl_val (want_no rfl) (some 10) rfl (.bool true) (fun _ => by kernel_rfl) ?_
    refine pl_nil ?_
    refine au_then ?_
    refine wp_seq ?_
    refine rg_lit ?_
    refine pl_new M (want_no rfl) (some 11) rfl (.cells (av 8 (w16 (fun _ => 0))) 188) (fun _ => by kernel_rfl) ?_
    intro g2 u5 M
    replace M : Mem ⟨w, []⟩ [⟨g1, .cells (av 3 (ls [.bool false, .int .u64 0, .int .u64 0])) 49⟩, ⟨g2, .cells (av 8 (w16 (fun _ => 0))) 188⟩] u5 := M
    refine pl_nil ?_
    refine au_then ?_
    refine wp_seq ?_
    refine wp_seq ?_
    refine rg_lit ?_
    refine pl_val (want_no rfl) (some 28) rfl (.bool false) (fun _ => by kernel_rfl) ?_
    refine pl_val (want_no rfl) (some 29) rfl (.bool true) (fun _ => by kernel_rfl) ?_
    refine pl_val (want_no rfl) (some 30) rfl (.bool true) (fun _ => by kernel_rfl) ?_
    refine pl_skip (want_off 2 false rfl 30 rfl (by kernel_rfl)) (some 31) rfl ?_
    refine pl_skip (want_off 2 false rfl 30 rfl (by kernel_rfl)) (some 32) rfl ?_
    refine pl_val (want_no rfl) (some 33) rfl (.bool true) (fun _ => by kernel_rfl) ?_
    refine pl_val (want_no rfl) (some 34) rfl (.bool true) (fun _ => by kernel_rfl) ?_
    refine pl_skip (want_off 6 false rfl 34 rfl (by kernel_rfl)) (some 35) rfl ?_
    refine pl_skip (want_off 6 false rfl 34 rfl (by kernel_rfl)) (some 36) rfl ?_
    refine pl_skip (want_off 6 false rfl 34 rfl (by kernel_rfl)) (some 37) rfl ?_
    refine pl_skip (want_off 6 false rfl 34 rfl (by kernel_rfl)) (some 38) rfl ?_
    refine pl_skip (want_off 6 false rfl 34 rfl (by kernel_rfl)) (some 39) rfl ?_
    refine pl_skip (want_off 6 false rfl 34 rfl (by kernel_rfl)) (some 40) rfl ?_
    refine pl_val (want_no rfl) (some 41) rfl (.bool true) (fun _ => by kernel_rfl) ?_
    refine pl_nil ?_
    refine au_then ?_
    refine wp_cond_true (by kernel_rfl) ?_
    refine wp_seq ?_
    refine rg_lit ?_
    refine pl_val (want_no rfl) (some 42) rfl (.agg (av 3 (ls [.bool false, .int .u64 0, .int .u64 0]))) (fun _ => by kernel_rfl) ?_
    refine pl_put M (want_no rfl) rfl 49 _ _ rfl 0 g1 0 (by kernel_rfl) 3 49 (ls [.bool false, .int .u64 0, .int .u64 0]) rfl 3 (ls [.bool false, .int .u64 0, .int .u64 0]) (ls [.bool false, .int .u64 0, .int .u64 0]) (by kernel_rfl) inz49 (by decide) (one_ls _ rfl) (fun j hj => by rw [if_pos (by omega), Nat.sub_zero]) ?_
    intro u6 M
    replace M : Mem ⟨w, []⟩ [⟨g1, .cells (av 3 (ls [.bool false, .int .u64 0, .int .u64 0])) 49⟩, ⟨g2, .cells (av 8 (w16 (fun _ => 0))) 188⟩] u6 := M
    refine pl_val (want_no rfl) (some 3) rfl (.bool false) (fun _ => by kernel_rfl) ?_
    refine pl_nil ?_
    refine au_then ?_
    refine wp_ret ?_
    refine au_then_ret ?_
    have e0 : (lk6 s).isSome = false := by rw [(show lk6 s = none by unfold lk6; rw [hN1, hN2])]; rfl
    have e1 : ((lk6 s).getD (0, 0)).1 = 0 := by rw [(show lk6 s = none by unfold lk6; rw [hN1, hN2])]; rfl
    have e2 : ((lk6 s).getD (0, 0)).2 = 0 := by rw [(show lk6 s = none by unfold lk6; rw [hN1, hN2])]; rfl
    exact bodyPost_ret (v := .tuple #[.agg (av 3 (ls [.bool false, .int .u64 0, .int .u64 0])), .bool false]) (results_cell_tmp Tryz.results210 _ _ g1 49 (av 3 (ls [.bool false, .int .u64 0, .int .u64 0])) (0, 0) _ _ (by kernel_rfl) (by kernel_rfl) (M.get 0 rfl) Tryz.underlying49 rfl (by rw [av_size]; exact inz49)) (by kernel_rfl) ⟨by rw [e0, e1, e2], below_grown M.old⟩
   ·skip
    refine pl_callL M (want_no rfl) (some 25) rfl 218 #[.string (cuB s ⟨#[58, 58]⟩), .string ⟨#[58]⟩, .int .i64 16, .int .i64 16] (fun g cap => .tuple #[.slice (some ⟨g, 0, none⟩) l2.length cap, .bool true]) (fun cap Z => SB Z cap (v16 l2)) (fun _ => by kernel_rfl) (fun w M => c_nums16L (cuB s ⟨#[58, 58]⟩) ⟨#[58]⟩ (by have := cuB_le s ⟨#[58, 58]⟩; omega) (by decide) l2 he2 hN2 w M.laid) ?_
    intro gl2 cp2 Z2 u4 hZ2 M
    replace M : Mem ⟨w, []⟩ [⟨g1, .cells (av 3 (ls [.bool false, .int .u64 0, .int .u64 0])) 49⟩, ⟨gl2, Z2⟩] u4 := M
    refine pl_val (want_no rfl) (some 23) rfl (.tuple #[.slice (some ⟨gl2, 0, none⟩) l2.length cp2, .bool true]) (fun _ => by kernel_rfl) ?_
    refine pl_val (want_no rfl) (some 26) rfl (.slice (some ⟨gl2, 0, none⟩) l2.length cp2) (fun _ => by kernel_rfl) ?_
    refine pl_val (want_no rfl) (some 27) rfl (.bool true) (fun _ => by kernel_rfl) ?_
    refine pl_val (want_no rfl) (some 9) rfl (.slice (some ⟨gl2, 0, none⟩) l2.length cp2) (fun _ => by kernel_rfl) ?_
    refine pl_val (want_no rfl) (some 10) rfl (.bool true) (fun _ => by kernel_rfl) ?_
    refine pl_nil ?_
    refine au_then ?_
    refine wp_seq ?_
    refine rg_lit ?_
    refine pl_new M (want_no rfl) (some 11) rfl (.cells (av 8 (w16 (fun _ => 0))) 188) (fun _ => by kernel_rfl) ?_
    intro g2 u5 M
    replace M : Mem ⟨w, []⟩ [⟨g1, .cells (av 3 (ls [.bool false, .int .u64 0, .int .u64 0])) 49⟩, ⟨gl2, Z2⟩, ⟨g2, .cells (av 8 (w16 (fun _ => 0))) 188⟩] u5 := M
    refine pl_nil ?_
    refine au_then ?_
    refine wp_seq ?_
    refine wp_seq ?_
    refine rg_lit ?_
    refine pl_val (want_no rfl) (some 28) rfl (.bool false) (fun _ => by kernel_rfl) ?_
    refine pl_val (want_no rfl) (some 29) rfl (.bool true) (fun _ => by kernel_rfl) ?_
    refine pl_val (want_no rfl) (some 30) rfl (.bool true) (fun _ => by kernel_rfl) ?_
    refine pl_skip (want_off 2 false rfl 30 rfl (by kernel_rfl)) (some 31) rfl ?_
    refine pl_skip (want_off 2 false rfl 30 rfl (by kernel_rfl)) (some 32) rfl ?_
    refine pl_val (want_no rfl) (some 33) rfl (.bool true) (fun _ => by kernel_rfl) ?_
    refine pl_val (want_no rfl) (some 34) rfl (.bool true) (fun _ => by kernel_rfl) ?_
    refine pl_skip (want_off 6 false rfl 34 rfl (by kernel_rfl)) (some 35) rfl ?_
    refine pl_skip (want_off 6 false rfl 34 rfl (by kernel_rfl)) (some 36) rfl ?_
    refine pl_skip (want_off 6 false rfl 34 rfl (by kernel_rfl)) (some 37) rfl ?_
    refine pl_skip (want_off 6 false rfl 34 rfl (by kernel_rfl)) (some 38) rfl ?_
    refine pl_skip (want_off 6 false rfl 34 rfl (by kernel_rfl)) (some 39) rfl ?_
    refine pl_skip (want_off 6 false rfl 34 rfl (by kernel_rfl)) (some 40) rfl ?_
    refine pl_val (want_no rfl) (some 41) rfl (.bool true) (fun _ => by kernel_rfl) ?_
    refine pl_nil ?_
    refine au_then ?_
    refine wp_cond_true (by kernel_rfl) ?_
    refine wp_seq ?_
    refine rg_lit ?_
    refine pl_val (want_no rfl) (some 42) rfl (.agg (av 3 (ls [.bool false, .int .u64 0, .int .u64 0]))) (fun _ => by kernel_rfl) ?_
    refine pl_put M (want_no rfl) rfl 49 _ _ rfl 0 g1 0 (by kernel_rfl) 3 49 (ls [.bool false, .int .u64 0, .int .u64 0]) rfl 3 (ls [.bool false, .int .u64 0, .int .u64 0]) (ls [.bool false, .int .u64 0, .int .u64 0]) (by kernel_rfl) inz49 (by decide) (one_ls _ rfl) (fun j hj => by rw [if_pos (by omega), Nat.sub_zero]) ?_
    intro u6 M
    replace M : Mem ⟨w, []⟩ [⟨g1, .cells (av 3 (ls [.bool false, .int .u64 0, .int .u64 0])) 49⟩, ⟨gl2, Z2⟩, ⟨g2, .cells (av 8 (w16 (fun _ => 0))) 188⟩] u6 := M
    refine pl_val (want_no rfl) (some 3) rfl (.bool false) (fun _ => by kernel_rfl) ?_
    refine pl_nil ?_
    refine au_then ?_
    refine wp_ret ?_
    refine au_then_ret ?_
    have e0 : (lk6 s).isSome = false := by rw [(show lk6 s = none by unfold lk6; rw [hN1, hN2])]; rfl
    have e1 : ((lk6 s).getD (0, 0)).1 = 0 := by rw [(show lk6 s = none by unfold lk6; rw [hN1, hN2])]; rfl
    have e2 : ((lk6 s).getD (0, 0)).2 = 0 := by rw [(show lk6 s = none by unfold lk6; rw [hN1, hN2])]; rfl
    exact bodyPost_ret (v := .tuple #[.agg (av 3 (ls [.bool false, .int .u64 0, .int .u64 0])), .bool false]) (results_cell_tmp Tryz.results210 _ _ g1 49 (av 3 (ls [.bool false, .int .u64 0, .int .u64 0])) (0, 0) _ _ (by kernel_rfl) (by kernel_rfl) (M.get 0 rfl) Tryz.underlying49 rfl (by rw [av_size]; exact inz49)) (by kernel_rfl) ⟨by rw [e0, e1, e2], below_grown M.old⟩
 ·skip
  by_cases he1 : l1 = []
  ·skip
   subst he1
   refine pl_call M (want_no rfl) (some 20) rfl 218 #[.string (cuA s ⟨#[58, 58]⟩), .string ⟨#[58]⟩, .int .i64 16, .int .i64 16] (.tuple #[.slice none 0 0, .bool true]) (fun _ => by kernel_rfl) (fun w M => c_nums16E (cuA s ⟨#[58, 58]⟩) ⟨#[58]⟩ (by have := cuA_le s ⟨#[58, 58]⟩; omega) (by decide) hN1 w M.laid) ?_
   intro u3 M
   refine pl_val (want_no rfl) (some 18) rfl (.tuple #[.slice none 0 0, .bool true]) (fun _ => by kernel_rfl) ?_
   refine pl_val (want_no rfl) (some 21) rfl (.slice none 0 0) (fun _ => by kernel_rfl) ?_
   refine pl_val (want_no rfl) (some 22) rfl (.bool true) (fun _ => by kernel_rfl) ?_
   refine pl_val (want_no rfl) (some 7) rfl (.slice none 0 0) (fun _ => by kernel_rfl) ?_
   refine pl_val (want_no rfl) (some 8) rfl (.bool true) (fun _ => by kernel_rfl) ?_
   refine pl_nil ?_
   refine au_then ?_
   refine wp_seq ?_
   refine rg_lit ?_
   refine pl_val (want_no rfl) (some 24) rfl (.string (cuB s ⟨#[58, 58]⟩)) (fun _ => by kernel_rfl) ?_
   rcases hN2 : nbs 16 65535 (cuB s ⟨#[58, 58]⟩) ⟨#[58]⟩ with _ | l2
   ·skip
    refine pl_call M (want_no rfl) (some 25) rfl 218 #[.string (cuB s ⟨#[58, 58]⟩), .string ⟨#[58]⟩, .int .i64 16, .int .i64 16] (.tuple #[.slice none 0 0, .bool false]) (fun _ => by kernel_rfl) (fun w M => c_nums16N (cuB s ⟨#[58, 58]⟩) ⟨#[58]⟩ (by have := cuB_le s ⟨#[58, 58]⟩; omega) (by decide) hN2 w M.laid) ?_
    intro u4 M
    refine pl_val (want_no rfl) (some 23) rfl (.tuple #[.slice none 0 0, .bool false]) (fun _ => by kernel_rfl) ?_
    refine pl_val (want_no rfl) (some 26) rfl (.slice none 0 0) (fun _ => by kernel_rfl) ?_
    refine pl_val (want_no rfl) (some 27) rfl (.bool false) (fun _ => by kernel_rfl) ?_
    refine pl_val (want_no rfl) (some 9) rfl (.slice none 0 0) (fun _ => by kernel_rfl) ?_
    refine pl_val (want_no rfl) (some 10) rfl (.bool false) (fun _ => by kernel_rfl) ?_
    refine pl_nil ?_
    refine au_then ?_
    refine wp_seq ?_
    refine rg_lit ?_
    refine pl_new M (want_no rfl) (some 11) rfl (.cells (av 8 (w16 (fun _ => 0))) 188) (fun _ => by kernel_rfl) ?_
    intro g2 u5 M
    replace M : Mem ⟨w, []⟩ [⟨g1, .cells (av 3 (ls [.bool false, .int .u64 0, .int .u64 0])) 49⟩, ⟨g2, .cells (av 8 (w16 (fun _ => 0))) 188⟩] u5 := M
    refine pl_nil ?_
    refine au_then ?_
    refine wp_seq ?_
    refine wp_seq ?_
    refine rg_lit ?_
    refine pl_val (want_no rfl) (some 28) rfl (.bool true) (fun _ => by kernel_rfl) ?_
    refine pl_val (want_no rfl) (some 29) rfl (.bool false) (fun _ => by kernel_rfl) ?_
    refine pl_val (want_no rfl) (some 30) rfl (.bool false) (fun _ => by kernel_rfl) ?_
    refine pl_val (want_on 2 false rfl 30 rfl (by kernel_rfl)) (some 31) rfl (.bool false) (fun _ => by kernel_rfl) ?_
    refine pl_val (want_on 2 false rfl 30 rfl (by kernel_rfl)) (some 32) rfl (.bool true) (fun _ => by kernel_rfl) ?_
    refine pl_val (want_no rfl) (some 33) rfl (.bool true) (fun _ => by kernel_rfl) ?_
    refine pl_val (want_no rfl) (some 34) rfl (.bool true) (fun _ => by kernel_rfl) ?_
    refine pl_skip (want_off 6 false rfl 34 rfl (by kernel_rfl)) (some 35) rfl ?_
    refine pl_skip (want_off 6 false rfl 34 rfl (by kernel_rfl)) (some 36) rfl ?_
    refine pl_skip (want_off 6 false rfl 34 rfl (by kernel_rfl)) (some 37) rfl ?_
    refine pl_skip (want_off 6 false rfl 34 rfl (by kernel_rfl)) (some 38) rfl ?_
    refine pl_skip (want_off 6 false rfl 34 rfl (by kernel_rfl)) (some 39) rfl ?_
    refine pl_skip (want_off 6 false rfl 34 rfl (by kernel_rfl)) (some 40) rfl ?_
    refine pl_val (want_no rfl) (some 41) rfl (.bool true) (fun _ => by kernel_rfl) ?_
    refine pl_nil ?_
    refine au_then ?_
    refine wp_cond_true (by kernel_rfl) ?_
    refine wp_seq ?_
    refine rg_lit ?_
    refine pl_val (want_no rfl) (some 42) rfl (.agg (av 3 (ls [.bool false, .int .u64 0, .int .u64 0]))) (fun _ => by kernel_rfl) ?_
    refine pl_put M (want_no rfl) rfl 49 _ _ rfl 0 g1 0 (by kernel_rfl) 3 49 (ls [.bool false, .int .u64 0, .int .u64 0]) rfl 3 (ls [.bool false, .int .u64 0, .int .u64 0]) (ls [.bool false, .int .u64 0, .int .u64 0]) (by kernel_rfl) inz49 (by decide) (one_ls _ rfl) (fun j hj => by rw [if_pos (by omega), Nat.sub_zero]) ?_
    intro u6 M
    replace M : Mem ⟨w, []⟩ [⟨g1, .cells (av 3 (ls [.bool false, .int .u64 0, .int .u64 0])) 49⟩, ⟨g2, .cells (av 8 (w16 (fun _ => 0))) 188⟩] u6 := M
    refine pl_val (want_no rfl) (some 3) rfl (.bool false) (fun _ => by kernel_rfl) ?_
    refine pl_nil ?_
    refine au_then ?_
    refine wp_ret ?_
    refine au_then_ret ?_
    have e0 : (lk6 s).isSome = false := by rw [(show lk6 s = none by unfold lk6; rw [hN1, hN2])]; rfl
    have e1 : ((lk6 s).getD (0, 0)).1 = 0 := by rw [(show lk6 s = none by unfold lk6; rw [hN1, hN2])]; rfl
    have e2 : ((lk6 s).getD (0, 0)).2 = 0 := by rw [(show lk6 s = none by unfold lk6; rw [hN1, hN2])]; rfl
    exact bodyPost_ret (v := .tuple #[.agg (av 3 (ls [.bool false, .int .u64 0, .int .u64 0])), .bool false]) (results_cell_tmp Tryz.results210 _ _ g1 49 (av 3 (ls [.bool false, .int .u64 0, .int .u64 0])) (0, 0) _ _ (by kernel_rfl) (by kernel_rfl) (M.get 0 rfl) Tryz.underlying49 rfl (by rw [av_size]; exact inz49)) (by kernel_rfl) ⟨by rw [e0, e1, e2], below_grown M.old⟩
   ·skip
    by_cases he2 : l2 = []
    ·skip
     subst he2
     refine pl_call M (want_no rfl) (some 25) rfl 218 #[.string (cuB s ⟨#[58, 58]⟩), .string ⟨#[58]⟩, .int .i64 16, .int .i64 16] (.tuple #[.slice none 0 0, .bool true]) (fun _ => by kernel_rfl) (fun w M => c_nums16E (cuB s ⟨#[58, 58]⟩) ⟨#[58]⟩ (by have := cuB_le s ⟨#[58, 58]⟩; omega) (by decide) hN2 w M.laid) ?_
     intro u4 M
     refine pl_val (want_no rfl) (some 23) rfl (.tuple #[.slice none 0 0, .bool true]) (fun _ => by kernel_rfl) ?_
     refine pl_val (want_no rfl) (some 26) rfl (.slice none 0 0) (fun _ => by kernel_rfl) ?_
     refine pl_val (want_no rfl) (some 27) rfl (.bool true) (fun _ => by kernel_rfl) ?_
     refine pl_val (want_no rfl) (some 9) rfl (.slice none 0 0) (fun _ => by kernel_rfl) ?_
     refine pl_val (want_no rfl) (some 10) rfl (.bool true) (fun _ => by kernel_rfl) ?_
     refine pl_nil ?_
     refine au_then ?_
     refine wp_seq ?_
     refine rg_lit ?_
     refine pl_new M (want_no rfl) (some 11) rfl (.cells (av 8 (w16 (fun _ => 0))) 188) (fun _ => by kernel_rfl) ?_
     intro g2 u5 M
     replace M : Mem ⟨w, []⟩ [⟨g1, .cells (av 3 (ls [.bool false, .int .u64 0, .int .u64 0])) 49⟩, ⟨g2, .cells (av 8 (w16 (fun _ => 0))) 188⟩] u5 := M
     refine pl_nil ?_
     refine au_then ?_
     refine wp_seq ?_
     refine wp_seq ?_
     refine rg_lit ?_
     refine pl_val (want_no rfl) (some 28) rfl (.bool true) (fun _ => by kernel_rfl) ?_
     refine pl_val (want_no rfl) (some 29) rfl (.bool false) (fun _ => by kernel_rfl) ?_
     refine pl_val (want_no rfl) (some 30) rfl (.bool false) (fun _ => by kernel_rfl) ?_
     refine pl_val (want_on 2 false rfl 30 rfl (by kernel_rfl)) (some 31) rfl (.bool true) (fun _ => by kernel_rfl) ?_
     refine pl_val (want_on 2 false rfl 30 rfl (by kernel_rfl)) (some 32) rfl (.bool false) (fun _ => by kernel_rfl) ?_
     refine pl_val (want_no rfl) (some 33) rfl (.bool false) (fun _ => by kernel_rfl) ?_
     refine pl_val (want_no rfl) (some 34) rfl (.bool false) (fun _ => by kernel_rfl) ?_
     refine pl_val (want_on 6 false rfl 34 rfl (by kernel_rfl)) (some 35) rfl (.slice none 0 0) (fun _ => by kernel_rfl) ?_
     refine pl_val (want_on 6 false rfl 34 rfl (by kernel_rfl)) (some 36) rfl (.int .i64 0) (fun _ => by kernel_rfl) ?_
     refine pl_val (want_on 6 false rfl 34 rfl (by kernel_rfl)) (some 37) rfl (.slice none 0 0) (fun _ => by kernel_rfl) ?_
     refine pl_val (want_on 6 false rfl 34 rfl (by kernel_rfl)) (some 38) rfl (.int .i64 0) (fun _ => by kernel_rfl) ?_
     refine pl_val (want_on 6 false rfl 34 rfl (by kernel_rfl)) (some 39) rfl (.int .i64 0) (fun _ => by kernel_rfl) ?_
     refine pl_val (want_on 6 false rfl 34 rfl (by kernel_rfl)) (some 40) rfl (.bool false) (fun _ => by kernel_rfl) ?_
     refine pl_val (want_no rfl) (some 41) rfl (.bool false) (fun _ => by kernel_rfl) ?_
     refine pl_nil ?_
     refine au_then ?_
     refine wp_cond_false (by kernel_rfl) ?_
     refine wp_skip ?_
     refine au_then ?_
     refine wp_seq ?_
     refine rg_lit ?_
     refine pl_val (want_no rfl) (some 43) rfl (.slice (some ⟨g2, 0, none⟩) 8 8) (fun _ => by kernel_rfl) ?_
     refine pl_val (want_no rfl) (some 44) rfl (.slice none 0 0) (fun _ => by kernel_rfl) ?_
     refine pl_val (want_no rfl) (some 45) rfl (.int .i64 0) (fun _ => by kernel_rfl) ?_
     refine pl_nil ?_
     refine au_then ?_
     refine wp_seq ?_
     refine rg_lit ?_
     refine pl_val (want_no rfl) (some 46) rfl (.slice none 0 0) (fun _ => by kernel_rfl) ?_
     refine pl_val (want_no rfl) (some 47) rfl (.int .i64 0) (fun _ => by kernel_rfl) ?_
     refine pl_val (want_no rfl) (some 48) rfl (.int .i64 8) (fun _ => by kernel_rfl) ?_
     refine pl_val (want_no rfl) (some 49) rfl (.slice (some ⟨g2, 0, none⟩) 0 0) (run_slAL 188 101 Tryz.underlying188 inz101 _ _ rfl g2 (by kernel_rfl) .i64 8 (by kernel_rfl) (by decide)) ?_
     refine pl_val (want_no rfl) (some 50) rfl (.slice none 0 0) (fun _ => by kernel_rfl) ?_
     refine pl_val (want_no rfl) (some 51) rfl (.int .i64 0) (fun _ => by kernel_rfl) ?_
     refine pl_nil ?_
     refine au_then ?_
     refine wp_seq ?_
     refine rg_lit ?_
     refine pl_load M (want_no rfl) (some 52) rfl 188 _ rfl 1 g2 0 (by kernel_rfl) 8 188 (w16 (fun _ => 0)) rfl 8 (w16 (fun _ => 0)) (fun j _ => by rw [Nat.zero_add]) (by decide) _ Tryz.underlying188 rfl inz188 ?_
     refine pl_call M (want_no rfl) (some 53) rfl 219 #[.agg (av 8 (w16 (fun _ => 0)))] (.agg (av 3 (ls [.bool true, .int .u64 (adH (fun _ => 0)), .int .u64 (adL (fun _ => 0))]))) (fun _ => by kernel_rfl) (fun w M => c_addr (fun _ => 0) w M.laid) ?_
     intro u6 M
     refine pl_put M (want_no rfl) rfl 49 _ _ rfl 0 g1 0 (by kernel_rfl) 3 49 (ls [.bool false, .int .u64 0, .int .u64 0]) rfl 3 (ls [.bool true, .int .u64 (adH (fun _ => 0)), .int .u64 (adL (fun _ => 0))]) (ls [.bool true, .int .u64 (adH (fun _ => 0)), .int .u64 (adL (fun _ => 0))]) (by kernel_rfl) inz49 (by decide) (one_ls _ rfl) (fun j hj => by rw [if_pos (by omega), Nat.sub_zero]) ?_
     intro u7 M
     replace M : Mem ⟨w, []⟩ [⟨g1, .cells (av 3 (ls [.bool true, .int .u64 (adH (fun _ => 0)), .int .u64 (adL (fun _ => 0))])) 49⟩, ⟨g2, .cells (av 8 (w16 (fun _ => 0))) 188⟩] u7 := M
     refine pl_val (want_no rfl) (some 3) rfl (.bool true) (fun _ => by kernel_rfl) ?_
     refine pl_nil ?_
     refine au_then ?_
     refine wp_ret ?_
     have e0 : (lk6 s).isSome = true := by rw [(show lk6 s = some (adH (g6 [] []), adL (g6 [] [])) by unfold lk6; rw [hN1, hN2]; exact if_neg (by decide))]; rfl
     have e1 : ((lk6 s).getD (0, 0)).1 = (adH (fun _ => 0)) := by rw [(show lk6 s = some (adH (g6 [] []), adL (g6 [] [])) by unfold lk6; rw [hN1, hN2]; exact if_neg (by decide))]; show adH (g6 [] []) = _; unfold g6; rw [cpl_nil, cpl_nil]
     have e2 : ((lk6 s).getD (0, 0)).2 = (adL (fun _ => 0)) := by rw [(show lk6 s = some (adH (g6 [] []), adL (g6 [] [])) by unfold lk6; rw [hN1, hN2]; exact if_neg (by decide))]; show adL (g6 [] []) = _; unfold g6; rw [cpl_nil, cpl_nil]
     exact bodyPost_ret (v := .tuple #[.agg (av 3 (ls [.bool true, .int .u64 (adH (fun _ => 0)), .int .u64 (adL (fun _ => 0))])), .bool true]) (results_cell_tmp Tryz.results210 _ _ g1 49 (av 3 (ls [.bool true, .int .u64 (adH (fun _ => 0)), .int .u64 (adL (fun _ => 0))])) (0, 0) _ _ (by kernel_rfl) (by kernel_rfl) (M.get 0 rfl) Tryz.underlying49 rfl (by rw [av_size]; exact inz49)) (by kernel_rfl) ⟨by rw [e0, e1, e2], below_grown M.old⟩
    ·skip
     refine pl_callL M (want_no rfl) (some 25) rfl 218 #[.string (cuB s ⟨#[58, 58]⟩), .string ⟨#[58]⟩, .int .i64 16, .int .i64 16] (fun g cap => .tuple #[.slice (some ⟨g, 0, none⟩) l2.length cap, .bool true]) (fun cap Z => SB Z cap (v16 l2)) (fun _ => by kernel_rfl) (fun w M => c_nums16L (cuB s ⟨#[58, 58]⟩) ⟨#[58]⟩ (by have := cuB_le s ⟨#[58, 58]⟩; omega) (by decide) l2 he2 hN2 w M.laid) ?_
     intro gl2 cp2 Z2 u4 hZ2 M
     replace M : Mem ⟨w, []⟩ [⟨g1, .cells (av 3 (ls [.bool false, .int .u64 0, .int .u64 0])) 49⟩, ⟨gl2, Z2⟩] u4 := M
     refine pl_val (want_no rfl) (some 23) rfl (.tuple #[.slice (some ⟨gl2, 0, none⟩) l2.length cp2, .bool true]) (fun _ => by kernel_rfl) ?_
     refine pl_val (want_no rfl) (some 26) rfl (.slice (some ⟨gl2, 0, none⟩) l2.length cp2) (fun _ => by kernel_rfl) ?_
     refine pl_val (want_no rfl) (some 27) rfl (.bool true) (fun _ => by kernel_rfl) ?_
     refine pl_val (want_no rfl) (some 9) rfl (.slice (some ⟨gl2, 0, none⟩) l2.length cp2) (fun _ => by kernel_rfl) ?_
     refine pl_val (want_no rfl) (some 10) rfl (.bool true) (fun _ => by kernel_rfl) ?_
     refine pl_nil ?_
     refine au_then ?_
     refine wp_seq ?_
     refine rg_lit ?_
     refine pl_new M (want_no rfl) (some 11) rfl (.cells (av 8 (w16 (fun _ => 0))) 188) (fun _ => by kernel_rfl) ?_
     intro g2 u5 M
     replace M : Mem ⟨w, []⟩ [⟨g1, .cells (av 3 (ls [.bool false, .int .u64 0, .int .u64 0])) 49⟩, ⟨gl2, Z2⟩, ⟨g2, .cells (av 8 (w16 (fun _ => 0))) 188⟩] u5 := M
     refine pl_nil ?_
     refine au_then ?_
     refine wp_seq ?_
     refine wp_seq ?_
     refine rg_lit ?_
     refine pl_val (want_no rfl) (some 28) rfl (.bool true) (fun _ => by kernel_rfl) ?_
     refine pl_val (want_no rfl) (some 29) rfl (.bool false) (fun _ => by kernel_rfl) ?_
     refine pl_val (want_no rfl) (some 30) rfl (.bool false) (fun _ => by kernel_rfl) ?_
     refine pl_val (want_on 2 false rfl 30 rfl (by kernel_rfl)) (some 31) rfl (.bool true) (fun _ => by kernel_rfl) ?_
     refine pl_val (want_on 2 false rfl 30 rfl (by kernel_rfl)) (some 32) rfl (.bool false) (fun _ => by kernel_rfl) ?_
     refine pl_val (want_no rfl) (some 33) rfl (.bool false) (fun _ => by kernel_rfl) ?_
     refine pl_val (want_no rfl) (some 34) rfl (.bool false) (fun _ => by kernel_rfl) ?_
     refine pl_val (want_on 6 false rfl 34 rfl (by kernel_rfl)) (some 35) rfl (.slice none 0 0) (fun _ => by kernel_rfl) ?_
     refine pl_val (want_on 6 false rfl 34 rfl (by kernel_rfl)) (some 36) rfl (.int .i64 0) (fun _ => by kernel_rfl) ?_
     refine pl_val (want_on 6 false rfl 34 rfl (by kernel_rfl)) (some 37) rfl (.slice (some ⟨gl2, 0, none⟩) l2.length cp2) (fun _ => by kernel_rfl) ?_
     refine pl_val (want_on 6 false rfl 34 rfl (by kernel_rfl)) (some 38) rfl (.int .i64 ((l2.length : Nat) : Int)) (fun _ => by kernel_rfl) ?_
     have hq2 := hl2 l2 hN2
     refine pl_val (want_on 6 false rfl 34 rfl (by kernel_rfl)) (some 39) rfl (.int .i64 (0 + ((l2.length : Nat) : Int))) (fun w => Eq.trans (b := .ok (.value (.int .i64 (cv .i64 (0 + ((l2.length : Nat) : Int))))) w) (by kernel_rfl) (by rw [cv_i64 (by omega) (by omega)])) ?_
     by_cases c4 : 8 < (0 + ((l2.length : Nat) : Int))
     ·skip
      refine pl_val (want_on 6 false rfl 34 rfl (by kernel_rfl)) (some 40) rfl (.bool true) (fun w => Eq.trans (b := .ok (.value (.bool (decide (8 < (0 + ((l2.length : Nat) : Int)))))) w) (by kernel_rfl) (by rw [decide_eq_true (c4)])) ?_
      refine pl_val (want_no rfl) (some 41) rfl (.bool true) (fun _ => by kernel_rfl) ?_
      refine pl_nil ?_
      refine au_then ?_
      refine wp_cond_true (by kernel_rfl) ?_
      refine wp_seq ?_
      refine rg_lit ?_
      refine pl_val (want_no rfl) (some 42) rfl (.agg (av 3 (ls [.bool false, .int .u64 0, .int .u64 0]))) (fun _ => by kernel_rfl) ?_
      refine pl_put M (want_no rfl) rfl 49 _ _ rfl 0 g1 0 (by kernel_rfl) 3 49 (ls [.bool false, .int .u64 0, .int .u64 0]) rfl 3 (ls [.bool false, .int .u64 0, .int .u64 0]) (ls [.bool false, .int .u64 0, .int .u64 0]) (by kernel_rfl) inz49 (by decide) (one_ls _ rfl) (fun j hj => by rw [if_pos (by omega), Nat.sub_zero]) ?_
      intro u6 M
      replace M : Mem ⟨w, []⟩ [⟨g1, .cells (av 3 (ls [.bool false, .int .u64 0, .int .u64 0])) 49⟩, ⟨gl2, Z2⟩, ⟨g2, .cells (av 8 (w16 (fun _ => 0))) 188⟩] u6 := M
      refine pl_val (want_no rfl) (some 3) rfl (.bool false) (fun _ => by kernel_rfl) ?_
      refine pl_nil ?_
      refine au_then ?_
      refine wp_ret ?_
      refine au_then_ret ?_
      have e0 : (lk6 s).isSome = false := by rw [(show lk6 s = none by unfold lk6; rw [hN1, hN2]; exact if_pos (by simp only [List.length_nil]; omega))]; rfl
      have e1 : ((lk6 s).getD (0, 0)).1 = 0 := by rw [(show lk6 s = none by unfold lk6; rw [hN1, hN2]; exact if_pos (by simp only [List.length_nil]; omega))]; rfl
      have e2 : ((lk6 s).getD (0, 0)).2 = 0 := by rw [(show lk6 s = none by unfold lk6; rw [hN1, hN2]; exact if_pos (by simp only [List.length_nil]; omega))]; rfl
      exact bodyPost_ret (v := .tuple #[.agg (av 3 (ls [.bool false, .int .u64 0, .int .u64 0])), .bool false]) (results_cell_tmp Tryz.results210 _ _ g1 49 (av 3 (ls [.bool false, .int .u64 0, .int .u64 0])) (0, 0) _ _ (by kernel_rfl) (by kernel_rfl) (M.get 0 rfl) Tryz.underlying49 rfl (by rw [av_size]; exact inz49)) (by kernel_rfl) ⟨by rw [e0, e1, e2], below_grown M.old⟩
     ·skip
      refine pl_val (want_on 6 false rfl 34 rfl (by kernel_rfl)) (some 40) rfl (.bool false) (fun w => Eq.trans (b := .ok (.value (.bool (decide (8 < (0 + ((l2.length : Nat) : Int)))))) w) (by kernel_rfl) (by rw [decide_eq_false (c4)])) ?_
      refine pl_val (want_no rfl) (some 41) rfl (.bool false) (fun _ => by kernel_rfl) ?_
      refine pl_nil ?_
      refine au_then ?_
      refine wp_cond_false (by kernel_rfl) ?_
      refine wp_skip ?_
      refine au_then ?_
      refine wp_seq ?_
      refine rg_lit ?_
      refine pl_val (want_no rfl) (some 43) rfl (.slice (some ⟨g2, 0, none⟩) 8 8) (fun _ => by kernel_rfl) ?_
      refine pl_val (want_no rfl) (some 44) rfl (.slice none 0 0) (fun _ => by kernel_rfl) ?_
      refine pl_val (want_no rfl) (some 45) rfl (.int .i64 0) (fun _ => by kernel_rfl) ?_
      refine pl_nil ?_
      refine au_then ?_
      refine wp_seq ?_
      refine rg_lit ?_
      refine pl_val (want_no rfl) (some 46) rfl (.slice (some ⟨gl2, 0, none⟩) l2.length cp2) (fun _ => by kernel_rfl) ?_
      refine pl_val (want_no rfl) (some 47) rfl (.int .i64 ((l2.length : Nat) : Int)) (fun _ => by kernel_rfl) ?_
      refine pl_val (want_no rfl) (some 48) rfl (.int .i64 ((8 - l2.length : Nat) : Int)) (fun w => Eq.trans (b := .ok (.value (.int .i64 (cv .i64 (8 - ((l2.length : Nat) : Int))))) w) (by kernel_rfl) (by rw [cv_i64 (by omega) (by omega)]; congr 3; omega)) ?_
      refine pl_val (want_no rfl) (some 49) rfl (.slice (some ⟨g2, (8 - l2.length), none⟩) (8 - (8 - l2.length)) (8 - (8 - l2.length))) (fun w => (run_slAL 188 101 Tryz.underlying188 inz101 _ _ rfl g2 (by kernel_rfl) .i64 (8 - l2.length) (by kernel_rfl) (by omega) w).trans (by rw [show so (8 - l2.length) = 8 - l2.length from if_neg (by have := List.length_pos_iff.2 he2; omega)])) ?_
      refine pl_val (want_no rfl) (some 50) rfl (.slice (some ⟨gl2, 0, none⟩) l2.length cp2) (fun _ => by kernel_rfl) ?_
      refine pl_copyC M (want_no rfl) (some 51) rfl 193 193 3 101 Tryz.underlying193 inz101 2 g2 8 188 (w16 (fun _ => 0)) rfl gl2 (w16 (tgi l2)) (8 - l2.length) (8 - (8 - l2.length)) (8 - (8 - l2.length)) 0 l2.length cp2 l2.length (by show _ = min _ _; omega) (by omega) (fun w M j hj => by rw [Nat.zero_add]; exact hZ2.cell (M.get 1 rfl) (v16_at _ _ hj)) (fun _ => rfl) (w16 (cpl (fun _ => 0) (8 - l2.length) l2)) (fun j _ => cpl_w16 _ _ _ j) (fun _ => by kernel_rfl) ?_
      intro u6 M
      replace M : Mem ⟨w, []⟩ [⟨g1, .cells (av 3 (ls [.bool false, .int .u64 0, .int .u64 0])) 49⟩, ⟨gl2, Z2⟩, ⟨g2, .cells (av 8 (w16 (cpl (fun _ => 0) (8 - l2.length) l2))) 188⟩] u6 := M
      refine pl_nil ?_
      refine au_then ?_
      refine wp_seq ?_
      refine rg_lit ?_
      refine pl_load M (want_no rfl) (some 52) rfl 188 _ rfl 2 g2 0 (by kernel_rfl) 8 188 (w16 (cpl (fun _ => 0) (8 - l2.length) l2)) rfl 8 (w16 (cpl (fun _ => 0) (8 - l2.length) l2)) (fun j _ => by rw [Nat.zero_add]) (by decide) _ Tryz.underlying188 rfl inz188 ?_
      refine pl_call M (want_no rfl) (some 53) rfl 219 #[.agg (av 8 (w16 (cpl (fun _ => 0) (8 - l2.length) l2)))] (.agg (av 3 (ls [.bool true, .int .u64 (adH (cpl (fun _ => 0) (8 - l2.length) l2)), .int .u64 (adL (cpl (fun _ => 0) (8 - l2.length) l2))]))) (fun _ => by kernel_rfl) (fun w M => c_addr (cpl (fun _ => 0) (8 - l2.length) l2) w M.laid) ?_
      intro u7 M
      refine pl_put M (want_no rfl) rfl 49 _ _ rfl 0 g1 0 (by kernel_rfl) 3 49 (ls [.bool false, .int .u64 0, .int .u64 0]) rfl 3 (ls [.bool true, .int .u64 (adH (cpl (fun _ => 0) (8 - l2.length) l2)), .int .u64 (adL (cpl (fun _ => 0) (8 - l2.length) l2))]) (ls [.bool true, .int .u64 (adH (cpl (fun _ => 0) (8 - l2.length) l2)), .int .u64 (adL (cpl (fun _ => 0) (8 - l2.length) l2))]) (by kernel_rfl) inz49 (by decide) (one_ls _ rfl) (fun j hj => by rw [if_pos (by omega), Nat.sub_zero]) ?_
      intro u8 M
      replace M : Mem ⟨w, []⟩ [⟨g1, .cells (av 3 (ls [.bool true, .int .u64 (adH (cpl (fun _ => 0) (8 - l2.length) l2)), .int .u64 (adL (cpl (fun _ => 0) (8 - l2.length) l2))])) 49⟩, ⟨gl2, Z2⟩, ⟨g2, .cells (av 8 (w16 (cpl (fun _ => 0) (8 - l2.length) l2))) 188⟩] u8 := M
      refine pl_val (want_no rfl) (some 3) rfl (.bool true) (fun _ => by kernel_rfl) ?_
      refine pl_nil ?_
      refine au_then ?_
      refine wp_ret ?_
      have e0 : (lk6 s).isSome = true := by rw [(show lk6 s = some (adH (g6 [] l2), adL (g6 [] l2)) by unfold lk6; rw [hN1, hN2]; exact if_neg (by simp only [List.length_nil]; omega))]; rfl
      have e1 : ((lk6 s).getD (0, 0)).1 = (adH (cpl (fun _ => 0) (8 - l2.length) l2)) := by rw [(show lk6 s = some (adH (g6 [] l2), adL (g6 [] l2)) by unfold lk6; rw [hN1, hN2]; exact if_neg (by simp only [List.length_nil]; omega))]; show adH (g6 [] l2) = _; unfold g6; rw [cpl_nil]
      have e2 : ((lk6 s).getD (0, 0)).2 = (adL (cpl (fun _ => 0) (8 - l2.length) l2)) := by rw [(show lk6 s = some (adH (g6 [] l2), adL (g6 [] l2)) by unfold lk6; rw [hN1, hN2]; exact if_neg (by simp only [List.length_nil]; omega))]; show adL (g6 [] l2) = _; unfold g6; rw [cpl_nil]
      exact bodyPost_ret (v := .tuple #[.agg (av 3 (ls [.bool true, .int .u64 (adH (cpl (fun _ => 0) (8 - l2.length) l2)), .int .u64 (adL (cpl (fun _ => 0) (8 - l2.length) l2))])), .bool true]) (results_cell_tmp Tryz.results210 _ _ g1 49 (av 3 (ls [.bool true, .int .u64 (adH (cpl (fun _ => 0) (8 - l2.length) l2)), .int .u64 (adL (cpl (fun _ => 0) (8 - l2.length) l2))])) (0, 0) _ _ (by kernel_rfl) (by kernel_rfl) (M.get 0 rfl) Tryz.underlying49 rfl (by rw [av_size]; exact inz49)) (by kernel_rfl) ⟨by rw [e0, e1, e2], below_grown M.old⟩
  ·skip
   refine pl_callL M (want_no rfl) (some 20) rfl 218 #[.string (cuA s ⟨#[58, 58]⟩), .string ⟨#[58]⟩, .int .i64 16, .int .i64 16] (fun g cap => .tuple #[.slice (some ⟨g, 0, none⟩) l1.length cap, .bool true]) (fun cap Z => SB Z cap (v16 l1)) (fun _ => by kernel_rfl) (fun w M => c_nums16L (cuA s ⟨#[58, 58]⟩) ⟨#[58]⟩ (by have := cuA_le s ⟨#[58, 58]⟩; omega) (by decide) l1 he1 hN1 w M.laid) ?_
   intro gl1 cp1 Z1 u3 hZ1 M
   replace M : Mem ⟨w, []⟩ [⟨g1, .cells (av 3 (ls [.bool false, .int .u64 0, .int .u64 0])) 49⟩, ⟨gl1, Z1⟩] u3 := M
   refine pl_val (want_no rfl) (some 18) rfl (.tuple #[.slice (some ⟨gl1, 0, none⟩) l1.length cp1, .bool true]) (fun _ => by kernel_rfl) ?_
   refine pl_val (want_no rfl) (some 21) rfl (.slice (some ⟨gl1, 0, none⟩) l1.length cp1) (fun _ => by kernel_rfl) ?_
   refine pl_val (want_no rfl) (some 22) rfl (.bool true) (fun _ => by kernel_rfl) ?_
   refine pl_val (want_no rfl) (some 7) rfl (.slice (some ⟨gl1, 0, none⟩) l1.length cp1) (fun _ => by kernel_rfl) ?_
   refine pl_val (want_no rfl) (some 8) rfl (.bool true) (fun _ => by kernel_rfl) ?_
   refine pl_nil ?_
   refine au_then ?_
   refine wp_seq ?_
   refine rg_lit ?_
   refine pl_val (want_no rfl) (some 24) rfl (.string (cuB s ⟨#[58, 58]⟩)) (fun _ => by kernel_rfl) ?_
   rcases hN2 : nbs 16 65535 (cuB s ⟨#[58, 58]⟩) ⟨#[58]⟩ with _ | l2
   ·skip
    refine pl_call M (want_no rfl) (some 25) rfl 218 #[.string (cuB s ⟨#[58, 58]⟩), .string ⟨#[58]⟩, .int .i64 16, .int .i64 16] (.tuple #[.slice none 0 0, .bool false]) (fun _ => by kernel_rfl) (fun w M => c_nums16N (cuB s ⟨#[58, 58]⟩) ⟨#[58]⟩ (by have := cuB_le s ⟨#[58, 58]⟩; omega) (by decide) hN2 w M.laid) ?_
    intro u4 M
    refine pl_val (want_no rfl) (some 23) rfl (.tuple #[.slice none 0 0, .bool false]) (fun _ => by kernel_rfl) ?_
    refine pl_val (want_no rfl) (some 26) rfl (.slice none 0 0) (fun _ => by kernel_rfl) ?_
    refine pl_val (want_no rfl) (some 27) rfl (.bool false) (fun _ => by kernel_rfl) ?_
    refine pl_val (want_no rfl) (some 9) rfl (.slice none 0 0) (fun _ => by kernel_rfl) ?_
    refine pl_val (want_no rfl) (some 10) rfl (.bool false) (fun _ => by kernel_rfl) ?_
    refine pl_nil ?_
    refine au_then ?_
    refine wp_seq ?_
    refine rg_lit ?_
    refine pl_new M (want_no rfl) (some 11) rfl (.cells (av 8 (w16 (fun _ => 0))) 188) (fun _ => by kernel_rfl) ?_
    intro g2 u5 M
    replace M : Mem ⟨w, []⟩ [⟨g1, .cells (av 3 (ls [.bool false, .int .u64 0, .int .u64 0])) 49⟩, ⟨gl1, Z1⟩, ⟨g2, .cells (av 8 (w16 (fun _ => 0))) 188⟩] u5 := M
    refine pl_nil ?_
    refine au_then ?_
    refine wp_seq ?_
    refine wp_seq ?_
    refine rg_lit ?_
    refine pl_val (want_no rfl) (some 28) rfl (.bool true) (fun _ => by kernel_rfl) ?_
    refine pl_val (want_no rfl) (some 29) rfl (.bool false) (fun _ => by kernel_rfl) ?_
    refine pl_val (want_no rfl) (some 30) rfl (.bool false) (fun _ => by kernel_rfl) ?_
    refine pl_val (want_on 2 false rfl 30 rfl (by kernel_rfl)) (some 31) rfl (.bool false) (fun _ => by kernel_rfl) ?_
    refine pl_val (want_on 2 false rfl 30 rfl (by kernel_rfl)) (some 32) rfl (.bool true) (fun _ => by kernel_rfl) ?_
    refine pl_val (want_no rfl) (some 33) rfl (.bool true) (fun _ => by kernel_rfl) ?_
    refine pl_val (want_no rfl) (some 34) rfl (.bool true) (fun _ => by kernel_rfl) ?_
    refine pl_skip (want_off 6 false rfl 34 rfl (by kernel_rfl)) (some 35) rfl ?_
    refine pl_skip (want_off 6 false rfl 34 rfl (by kernel_rfl)) (some 36) rfl ?_
    refine pl_skip (want_off 6 false rfl 34 rfl (by kernel_rfl)) (some 37) rfl ?_
    refine pl_skip (want_off 6 false rfl 34 rfl (by kernel_rfl)) (some 38) rfl ?_
    refine pl_skip (want_off 6 false rfl 34 rfl (by kernel_rfl)) (some 39) rfl ?_
    refine pl_skip (want_off 6 false rfl 34 rfl (by kernel_rfl)) (some 40) rfl ?_
    refine pl_val (want_no rfl) (some 41) rfl (.bool true) (fun _ => by kernel_rfl) ?_
    refine pl_nil ?_
    refine au_then ?_
    refine wp_cond_true (by kernel_rfl) ?_
    refine wp_seq ?_
    refine rg_lit ?_
    refine pl_val (want_no rfl) (some 42) rfl (.agg (av 3 (ls [.bool false, .int .u64 0, .int .u64 0]))) (fun _ => by kernel_rfl) ?_
    refine pl_put M (want_no rfl) rfl 49 _ _ rfl 0 g1 0 (by kernel_rfl) 3 49 (ls [.bool false, .int .u64 0, .int .u64 0]) rfl 3 (ls [.bool false, .int .u64 0, .int .u64 0]) (ls [.bool false, .int .u64 0, .int .u64 0]) (by kernel_rfl) inz49 (by decide) (one_ls _ rfl) (fun j hj => by rw [if_pos (by omega), Nat.sub_zero]) ?_
    intro u6 M
    replace M : Mem ⟨w, []⟩ [⟨g1, .cells (av 3 (ls [.bool false, .int .u64 0, .int .u64 0])) 49⟩, ⟨gl1, Z1⟩, ⟨g2, .cells (av 8 (w16 (fun _ => 0))) 188⟩] u6 := M
    refine pl_val (want_no rfl) (some 3) rfl (.bool false) (fun _ => by kernel_rfl) ?_
    refine pl_nil ?_
    refine au_then ?_
    refine wp_ret ?_
    refine au_then_ret ?_
    have e0 : (lk6 s).isSome = false := by rw [(show lk6 s = none by unfold lk6; rw [hN1, hN2])]; rfl
    have e1 : ((lk6 s).getD (0, 0)).1 = 0 := by rw [(show lk6 s = none by unfold lk6; rw [hN1, hN2])]; rfl
    have e2 : ((lk6 s).getD (0, 0)).2 = 0 := by rw [(show lk6 s = none by unfold lk6; rw [hN1, hN2])]; rfl
    exact bodyPost_ret (v := .tuple #[.agg (av 3 (ls [.bool false, .int .u64 0, .int .u64 0])), .bool false]) (results_cell_tmp Tryz.results210 _ _ g1 49 (av 3 (ls [.bool false, .int .u64 0, .int .u64 0])) (0, 0) _ _ (by kernel_rfl) (by kernel_rfl) (M.get 0 rfl) Tryz.underlying49 rfl (by rw [av_size]; exact inz49)) (by kernel_rfl) ⟨by rw [e0, e1, e2], below_grown M.old⟩
   ·skip
    by_cases he2 : l2 = []
    ·skip
     subst he2
     refine pl_call M (want_no rfl) (some 25) rfl 218 #[.string (cuB s ⟨#[58, 58]⟩), .string ⟨#[58]⟩, .int .i64 16, .int .i64 16] (.tuple #[.slice none 0 0, .bool true]) (fun _ => by kernel_rfl) (fun w M => c_nums16E (cuB s ⟨#[58, 58]⟩) ⟨#[58]⟩ (by have := cuB_le s ⟨#[58, 58]⟩; omega) (by decide) hN2 w M.laid) ?_
     intro u4 M
     refine pl_val (want_no rfl) (some 23) rfl (.tuple #[.slice none 0 0, .bool true]) (fun _ => by kernel_rfl) ?_
     refine pl_val (want_no rfl) (some 26) rfl (.slice none 0 0) (fun _ => by kernel_rfl) ?_
     refine pl_val (want_no rfl) (some 27) rfl (.bool true) (fun _ => by kernel_rfl) ?_
     refine pl_val (want_no rfl) (some 9) rfl (.slice none 0 0) (fun _ => by kernel_rfl) ?_
     refine pl_val (want_no rfl) (some 10) rfl (.bool true) (fun _ => by kernel_rfl) ?_
     refine pl_nil ?_
     refine au_then ?_
     refine wp_seq ?_
     refine rg_lit ?_
     refine pl_new M (want_no rfl) (some 11) rfl (.cells (av 8 (w16 (fun _ => 0))) 188) (fun _ => by kernel_rfl) ?_
     intro g2 u5 M
     replace M : Mem ⟨w, []⟩ [⟨g1, .cells (av 3 (ls [.bool false, .int .u64 0, .int .u64 0])) 49⟩, ⟨gl1, Z1⟩, ⟨g2, .cells (av 8 (w16 (fun _ => 0))) 188⟩] u5 := M
     refine pl_nil ?_
     refine au_then ?_
     refine wp_seq ?_
     refine wp_seq ?_
     refine rg_lit ?_
     refine pl_val (want_no rfl) (some 28) rfl (.bool true) (fun _ => by kernel_rfl) ?_
     refine pl_val (want_no rfl) (some 29) rfl (.bool false) (fun _ => by kernel_rfl) ?_
     refine pl_val (want_no rfl) (some 30) rfl (.bool false) (fun _ => by kernel_rfl) ?_
     refine pl_val (want_on 2 false rfl 30 rfl (by kernel_rfl)) (some 31) rfl (.bool true) (fun _ => by kernel_rfl) ?_
     refine pl_val (want_on 2 false rfl 30 rfl (by kernel_rfl)) (some 32) rfl (.bool false) (fun _ => by kernel_rfl) ?_
     refine pl_val (want_no rfl) (some 33) rfl (.bool false) (fun _ => by kernel_rfl) ?_
     refine pl_val (want_no rfl) (some 34) rfl (.bool false) (fun _ => by kernel_rfl) ?_
     refine pl_val (want_on 6 false rfl 34 rfl (by kernel_rfl)) (some 35) rfl (.slice (some ⟨gl1, 0, none⟩) l1.length cp1) (fun _ => by kernel_rfl) ?_
     refine pl_val (want_on 6 false rfl 34 rfl (by kernel_rfl)) (some 36) rfl (.int .i64 ((l1.length : Nat) : Int)) (fun _ => by kernel_rfl) ?_
     refine pl_val (want_on 6 false rfl 34 rfl (by kernel_rfl)) (some 37) rfl (.slice none 0 0) (fun _ => by kernel_rfl) ?_
     refine pl_val (want_on 6 false rfl 34 rfl (by kernel_rfl)) (some 38) rfl (.int .i64 0) (fun _ => by kernel_rfl) ?_
     have hq1 := hl1 l1 hN1
     refine pl_val (want_on 6 false rfl 34 rfl (by kernel_rfl)) (some 39) rfl (.int .i64 (((l1.length : Nat) : Int) + 0)) (fun w => Eq.trans (b := .ok (.value (.int .i64 (cv .i64 (((l1.length : Nat) : Int) + 0)))) w) (by kernel_rfl) (by rw [cv_i64 (by omega) (by omega)])) ?_
     by_cases c4 : 8 < (((l1.length : Nat) : Int) + 0)
     ·skip
      refine pl_val (want_on 6 false rfl 34 rfl (by kernel_rfl)) (some 40) rfl (.bool true) (fun w => Eq.trans (b := .ok (.value (.bool (decide (8 < (((l1.length : Nat) : Int) + 0))))) w) (by kernel_rfl) (by rw [decide_eq_true (c4)])) ?_
      refine pl_val (want_no rfl) (some 41) rfl (.bool true) (fun _ => by kernel_rfl) ?_
      refine pl_nil ?_
      refine au_then ?_
      refine wp_cond_true (by kernel_rfl) ?_
      refine wp_seq ?_
      refine rg_lit ?_
      refine pl_val (want_no rfl) (some 42) rfl (.agg (av 3 (ls [.bool false, .int .u64 0, .int .u64 0]))) (fun _ => by kernel_rfl) ?_
      refine pl_put M (want_no rfl) rfl 49 _ _ rfl 0 g1 0 (by kernel_rfl) 3 49 (ls [.bool false, .int .u64 0, .int .u64 0]) rfl 3 (ls [.bool false, .int .u64 0, .int .u64 0]) (ls [.bool false, .int .u64 0, .int .u64 0]) (by kernel_rfl) inz49 (by decide) (one_ls _ rfl) (fun j hj => by rw [if_pos (by omega), Nat.sub_zero]) ?_
      intro u6 M
      replace M : Mem ⟨w, []⟩ [⟨g1, .cells (av 3 (ls [.bool false, .int .u64 0, .int .u64 0])) 49⟩, ⟨gl1, Z1⟩, ⟨g2, .cells (av 8 (w16 (fun _ => 0))) 188⟩] u6 := M
      refine pl_val (want_no rfl) (some 3) rfl (.bool false) (fun _ => by kernel_rfl) ?_
      refine pl_nil ?_
      refine au_then ?_
      refine wp_ret ?_
      refine au_then_ret ?_
      have e0 : (lk6 s).isSome = false := by rw [(show lk6 s = none by unfold lk6; rw [hN1, hN2]; exact if_pos (by simp only [List.length_nil]; omega))]; rfl
      have e1 : ((lk6 s).getD (0, 0)).1 = 0 := by rw [(show lk6 s = none by unfold lk6; rw [hN1, hN2]; exact if_pos (by simp only [List.length_nil]; omega))]; rfl
      have e2 : ((lk6 s).getD (0, 0)).2 = 0 := by rw [(show lk6 s = none by unfold lk6; rw [hN1, hN2]; exact if_pos (by simp only [List.length_nil]; omega))]; rfl
      exact bodyPost_ret (v := .tuple #[.agg (av 3 (ls [.bool false, .int .u64 0, .int .u64 0])), .bool false]) (results_cell_tmp Tryz.results210 _ _ g1 49 (av 3 (ls [.bool false, .int .u64 0, .int .u64 0])) (0, 0) _ _ (by kernel_rfl) (by kernel_rfl) (M.get 0 rfl) Tryz.underlying49 rfl (by rw [av_size]; exact inz49)) (by kernel_rfl) ⟨by rw [e0, e1, e2], below_grown M.old⟩
     ·skip
      refine pl_val (want_on 6 false rfl 34 rfl (by kernel_rfl)) (some 40) rfl (.bool false) (fun w => Eq.trans (b := .ok (.value (.bool (decide (8 < (((l1.length : Nat) : Int) + 0))))) w) (by kernel_rfl) (by rw [decide_eq_false (c4)])) ?_
      refine pl_val (want_no rfl) (some 41) rfl (.bool false) (fun _ => by kernel_rfl) ?_
      refine pl_nil ?_
      refine au_then ?_
      refine wp_cond_false (by kernel_rfl) ?_
      refine wp_skip ?_
      refine au_then ?_
      refine wp_seq ?_
      refine rg_lit ?_
      refine pl_val (want_no rfl) (some 43) rfl (.slice (some ⟨g2, 0, none⟩) 8 8) (fun _ => by kernel_rfl) ?_
      refine pl_val (want_no rfl) (some 44) rfl (.slice (some ⟨gl1, 0, none⟩) l1.length cp1) (fun _ => by kernel_rfl) ?_
      refine pl_copyC M (want_no rfl) (some 45) rfl 193 193 3 101 Tryz.underlying193 inz101 2 g2 8 188 (w16 (fun _ => 0)) rfl gl1 (w16 (tgi l1)) 0 8 8 0 l1.length cp1 l1.length (by show _ = min _ _; omega) (by omega) (fun w M j hj => by rw [Nat.zero_add]; exact hZ1.cell (M.get 1 rfl) (v16_at _ _ hj)) (fun _ => rfl) (w16 (cpl (fun _ => 0) 0 l1)) (fun j _ => cpl_w16 _ _ _ j) (fun _ => by kernel_rfl) ?_
      intro u6 M
      replace M : Mem ⟨w, []⟩ [⟨g1, .cells (av 3 (ls [.bool false, .int .u64 0, .int .u64 0])) 49⟩, ⟨gl1, Z1⟩, ⟨g2, .cells (av 8 (w16 (cpl (fun _ => 0) 0 l1))) 188⟩] u6 := M
      refine pl_nil ?_
      refine au_then ?_
      refine wp_seq ?_
      refine rg_lit ?_
      refine pl_val (want_no rfl) (some 46) rfl (.slice none 0 0) (fun _ => by kernel_rfl) ?_
      refine pl_val (want_no rfl) (some 47) rfl (.int .i64 0) (fun _ => by kernel_rfl) ?_
      refine pl_val (want_no rfl) (some 48) rfl (.int .i64 8) (fun _ => by kernel_rfl) ?_
      refine pl_val (want_no rfl) (some 49) rfl (.slice (some ⟨g2, 0, none⟩) 0 0) (run_slAL 188 101 Tryz.underlying188 inz101 _ _ rfl g2 (by kernel_rfl) .i64 8 (by kernel_rfl) (by decide)) ?_
      refine pl_val (want_no rfl) (some 50) rfl (.slice none 0 0) (fun _ => by kernel_rfl) ?_
      refine pl_val (want_no rfl) (some 51) rfl (.int .i64 0) (fun _ => by kernel_rfl) ?_
      refine pl_nil ?_
      refine au_then ?_
      refine wp_seq ?_
      refine rg_lit ?_
      refine pl_load M (want_no rfl) (some 52) rfl 188 _ rfl 2 g2 0 (by kernel_rfl) 8 188 (w16 (cpl (fun _ => 0) 0 l1)) rfl 8 (w16 (cpl (fun _ => 0) 0 l1)) (fun j _ => by rw [Nat.zero_add]) (by decide) _ Tryz.underlying188 rfl inz188 ?_
      refine pl_call M (want_no rfl) (some 53) rfl 219 #[.agg (av 8 (w16 (cpl (fun _ => 0) 0 l1)))] (.agg (av 3 (ls [.bool true, .int .u64 (adH (cpl (fun _ => 0) 0 l1)), .int .u64 (adL (cpl (fun _ => 0) 0 l1))]))) (fun _ => by kernel_rfl) (fun w M => c_addr (cpl (fun _ => 0) 0 l1) w M.laid) ?_
      intro u7 M
      refine pl_put M (want_no rfl) rfl 49 _ _ rfl 0 g1 0 (by kernel_rfl) 3 49 (ls [.bool false, .int .u64 0, .int .u64 0]) rfl 3 (ls [.bool true, .int .u64 (adH (cpl (fun _ => 0) 0 l1)), .int .u64 (adL (cpl (fun _ => 0) 0 l1))]) (ls [.bool true, .int .u64 (adH (cpl (fun _ => 0) 0 l1)), .int .u64 (adL (cpl (fun _ => 0) 0 l1))]) (by kernel_rfl) inz49 (by decide) (one_ls _ rfl) (fun j hj => by rw [if_pos (by omega), Nat.sub_zero]) ?_
      intro u8 M
      replace M : Mem ⟨w, []⟩ [⟨g1, .cells (av 3 (ls [.bool true, .int .u64 (adH (cpl (fun _ => 0) 0 l1)), .int .u64 (adL (cpl (fun _ => 0) 0 l1))])) 49⟩, ⟨gl1, Z1⟩, ⟨g2, .cells (av 8 (w16 (cpl (fun _ => 0) 0 l1))) 188⟩] u8 := M
      refine pl_val (want_no rfl) (some 3) rfl (.bool true) (fun _ => by kernel_rfl) ?_
      refine pl_nil ?_
      refine au_then ?_
      refine wp_ret ?_
      have e0 : (lk6 s).isSome = true := by rw [(show lk6 s = some (adH (g6 l1 []), adL (g6 l1 [])) by unfold lk6; rw [hN1, hN2]; exact if_neg (by simp only [List.length_nil]; omega))]; rfl
      have e1 : ((lk6 s).getD (0, 0)).1 = (adH (cpl (fun _ => 0) 0 l1)) := by rw [(show lk6 s = some (adH (g6 l1 []), adL (g6 l1 [])) by unfold lk6; rw [hN1, hN2]; exact if_neg (by simp only [List.length_nil]; omega))]; show adH (g6 l1 []) = _; unfold g6; rw [cpl_nil]
      have e2 : ((lk6 s).getD (0, 0)).2 = (adL (cpl (fun _ => 0) 0 l1)) := by rw [(show lk6 s = some (adH (g6 l1 []), adL (g6 l1 [])) by unfold lk6; rw [hN1, hN2]; exact if_neg (by simp only [List.length_nil]; omega))]; show adL (g6 l1 []) = _; unfold g6; rw [cpl_nil]
      exact bodyPost_ret (v := .tuple #[.agg (av 3 (ls [.bool true, .int .u64 (adH (cpl (fun _ => 0) 0 l1)), .int .u64 (adL (cpl (fun _ => 0) 0 l1))])), .bool true]) (results_cell_tmp Tryz.results210 _ _ g1 49 (av 3 (ls [.bool true, .int .u64 (adH (cpl (fun _ => 0) 0 l1)), .int .u64 (adL (cpl (fun _ => 0) 0 l1))])) (0, 0) _ _ (by kernel_rfl) (by kernel_rfl) (M.get 0 rfl) Tryz.underlying49 rfl (by rw [av_size]; exact inz49)) (by kernel_rfl) ⟨by rw [e0, e1, e2], below_grown M.old⟩
    ·skip
     refine pl_callL M (want_no rfl) (some 25) rfl 218 #[.string (cuB s ⟨#[58, 58]⟩), .string ⟨#[58]⟩, .int .i64 16, .int .i64 16] (fun g cap => .tuple #[.slice (some ⟨g, 0, none⟩) l2.length cap, .bool true]) (fun cap Z => SB Z cap (v16 l2)) (fun _ => by kernel_rfl) (fun w M => c_nums16L (cuB s ⟨#[58, 58]⟩) ⟨#[58]⟩ (by have := cuB_le s ⟨#[58, 58]⟩; omega) (by decide) l2 he2 hN2 w M.laid) ?_
     intro gl2 cp2 Z2 u4 hZ2 M
     replace M : Mem ⟨w, []⟩ [⟨g1, .cells (av 3 (ls [.bool false, .int .u64 0, .int .u64 0])) 49⟩, ⟨gl1, Z1⟩, ⟨gl2, Z2⟩] u4 := M
     refine pl_val (want_no rfl) (some 23) rfl (.tuple #[.slice (some ⟨gl2, 0, none⟩) l2.length cp2, .bool true]) (fun _ => by kernel_rfl) ?_
     refine pl_val (want_no rfl) (some 26) rfl (.slice (some ⟨gl2, 0, none⟩) l2.length cp2) (fun _ => by kernel_rfl) ?_
     refine pl_val (want_no rfl) (some 27) rfl (.bool true) (fun _ => by kernel_rfl) ?_
     refine pl_val (want_no rfl) (some 9) rfl (.slice (some ⟨gl2, 0, none⟩) l2.length cp2) (fun _ => by kernel_rfl) ?_
     refine pl_val (want_no rfl) (some 10) rfl (.bool true) (fun _ => by kernel_rfl) ?_
     refine pl_nil ?_
     refine au_then ?_
     refine wp_seq ?_
     refine rg_lit ?_
     refine pl_new M (want_no rfl) (some 11) rfl (.cells (av 8 (w16 (fun _ => 0))) 188) (fun _ => by kernel_rfl) ?_
     intro g2 u5 M
     replace M : Mem ⟨w, []⟩ [⟨g1, .cells (av 3 (ls [.bool false, .int .u64 0, .int .u64 0])) 49⟩, ⟨gl1, Z1⟩, ⟨gl2, Z2⟩, ⟨g2, .cells (av 8 (w16 (fun _ => 0))) 188⟩] u5 := M
     refine pl_nil ?_
     refine au_then ?_
     refine wp_seq ?_
     refine wp_seq ?_
     refine rg_lit ?_
     refine pl_val (want_no rfl) (some 28) rfl (.bool true) (fun _ => by kernel_rfl) ?_
     refine pl_val (want_no rfl) (some 29) rfl (.bool false) (fun _ => by kernel_rfl) ?_
     refine pl_val (want_no rfl) (some 30) rfl (.bool false) (fun _ => by kernel_rfl) ?_
     refine pl_val (want_on 2 false rfl 30 rfl (by kernel_rfl)) (some 31) rfl (.bool true) (fun _ => by kernel_rfl) ?_
     refine pl_val (want_on 2 false rfl 30 rfl (by kernel_rfl)) (some 32) rfl (.bool false) (fun _ => by kernel_rfl) ?_
     refine pl_val (want_no rfl) (some 33) rfl (.bool false) (fun _ => by kernel_rfl) ?_
     refine pl_val (want_no rfl) (some 34) rfl (.bool false) (fun _ => by kernel_rfl) ?_
     refine pl_val (want_on 6 false rfl 34 rfl (by kernel_rfl)) (some 35) rfl (.slice (some ⟨gl1, 0, none⟩) l1.length cp1) (fun _ => by kernel_rfl) ?_
     refine pl_val (want_on 6 false rfl 34 rfl (by kernel_rfl)) (some 36) rfl (.int .i64 ((l1.length : Nat) : Int)) (fun _ => by kernel_rfl) ?_
     refine pl_val (want_on 6 false rfl 34 rfl (by kernel_rfl)) (some 37) rfl (.slice (some ⟨gl2, 0, none⟩) l2.length cp2) (fun _ => by kernel_rfl) ?_
     refine pl_val (want_on 6 false rfl 34 rfl (by kernel_rfl)) (some 38) rfl (.int .i64 ((l2.length : Nat) : Int)) (fun _ => by kernel_rfl) ?_
     have hq1 := hl1 l1 hN1
     have hq2 := hl2 l2 hN2
     refine pl_val (want_on 6 false rfl 34 rfl (by kernel_rfl)) (some 39) rfl (.int .i64 (((l1.length : Nat) : Int) + ((l2.length : Nat) : Int))) (fun w => Eq.trans (b := .ok (.value (.int .i64 (cv .i64 (((l1.length : Nat) : Int) + ((l2.length : Nat) : Int))))) w) (by kernel_rfl) (by rw [cv_i64 (by omega) (by omega)])) ?_
     by_cases c4 : 8 < (((l1.length : Nat) : Int) + ((l2.length : Nat) : Int))
     ·skip
      refine pl_val (want_on 6 false rfl 34 rfl (by kernel_rfl)) (some 40) rfl (.bool true) (fun w => Eq.trans (b := .ok (.value (.bool (decide (8 < (((l1.length : Nat) : Int) + ((l2.length : Nat) : Int)))))) w) (by kernel_rfl) (by rw [decide_eq_true (c4)])) ?_
      refine pl_val (want_no rfl) (some 41) rfl (.bool true) (fun _ => by kernel_rfl) ?_
      refine pl_nil ?_
      refine au_then ?_
      refine wp_cond_true (by kernel_rfl) ?_
      refine wp_seq ?_
      refine rg_lit ?_
      refine pl_val (want_no rfl) (some 42) rfl (.agg (av 3 (ls [.bool false, .int .u64 0, .int .u64 0]))) (fun _ => by kernel_rfl) ?_
      refine pl_put M (want_no rfl) rfl 49 _ _ rfl 0 g1 0 (by kernel_rfl) 3 49 (ls [.bool false, .int .u64 0, .int .u64 0]) rfl 3 (ls [.bool false, .int .u64 0, .int .u64 0]) (ls [.bool false, .int .u64 0, .int .u64 0]) (by kernel_rfl) inz49 (by decide) (one_ls _ rfl) (fun j hj => by rw [if_pos (by omega), Nat.sub_zero]) ?_
      intro u6 M
      replace M : Mem ⟨w, []⟩ [⟨g1, .cells (av 3 (ls [.bool false, .int .u64 0, .int .u64 0])) 49⟩, ⟨gl1, Z1⟩, ⟨gl2, Z2⟩, ⟨g2, .cells (av 8 (w16 (fun _ => 0))) 188⟩] u6 := M
      refine pl_val (want_no rfl) (some 3) rfl (.bool false) (fun _ => by kernel_rfl) ?_
      refine pl_nil ?_
      refine au_then ?_
      refine wp_ret ?_
      refine au_then_ret ?_
      have e0 : (lk6 s).isSome = false := by rw [(show lk6 s = none by unfold lk6; rw [hN1, hN2]; exact if_pos (by omega))]; rfl
      have e1 : ((lk6 s).getD (0, 0)).1 = 0 := by rw [(show lk6 s = none by unfold lk6; rw [hN1, hN2]; exact if_pos (by omega))]; rfl
      have e2 : ((lk6 s).getD (0, 0)).2 = 0 := by rw [(show lk6 s = none by unfold lk6; rw [hN1, hN2]; exact if_pos (by omega))]; rfl
      exact bodyPost_ret (v := .tuple #[.agg (av 3 (ls [.bool false, .int .u64 0, .int .u64 0])), .bool false]) (results_cell_tmp Tryz.results210 _ _ g1 49 (av 3 (ls [.bool false, .int .u64 0, .int .u64 0])) (0, 0) _ _ (by kernel_rfl) (by kernel_rfl) (M.get 0 rfl) Tryz.underlying49 rfl (by rw [av_size]; exact inz49)) (by kernel_rfl) ⟨by rw [e0, e1, e2], below_grown M.old⟩
     ·skip
      refine pl_val (want_on 6 false rfl 34 rfl (by kernel_rfl)) (some 40) rfl (.bool false) (fun w => Eq.trans (b := .ok (.value (.bool (decide (8 < (((l1.length : Nat) : Int) + ((l2.length : Nat) : Int)))))) w) (by kernel_rfl) (by rw [decide_eq_false (c4)])) ?_
      refine pl_val (want_no rfl) (some 41) rfl (.bool false) (fun _ => by kernel_rfl) ?_
      refine pl_nil ?_
      refine au_then ?_
      refine wp_cond_false (by kernel_rfl) ?_
      refine wp_skip ?_
      refine au_then ?_
      refine wp_seq ?_
      refine rg_lit ?_
      refine pl_val (want_no rfl) (some 43) rfl (.slice (some ⟨g2, 0, none⟩) 8 8) (fun _ => by kernel_rfl) ?_
      refine pl_val (want_no rfl) (some 44) rfl (.slice (some ⟨gl1, 0, none⟩) l1.length cp1) (fun _ => by kernel_rfl) ?_
      refine pl_copyC M (want_no rfl) (some 45) rfl 193 193 3 101 Tryz.underlying193 inz101 3 g2 8 188 (w16 (fun _ => 0)) rfl gl1 (w16 (tgi l1)) 0 8 8 0 l1.length cp1 l1.length (by show _ = min _ _; omega) (by omega) (fun w M j hj => by rw [Nat.zero_add]; exact hZ1.cell (M.get 1 rfl) (v16_at _ _ hj)) (fun _ => rfl) (w16 (cpl (fun _ => 0) 0 l1)) (fun j _ => cpl_w16 _ _ _ j) (fun _ => by kernel_rfl) ?_
      intro u6 M
      replace M : Mem ⟨w, []⟩ [⟨g1, .cells (av 3 (ls [.bool false, .int .u64 0, .int .u64 0])) 49⟩, ⟨gl1, Z1⟩, ⟨gl2, Z2⟩, ⟨g2, .cells (av 8 (w16 (cpl (fun _ => 0) 0 l1))) 188⟩] u6 := M
      refine pl_nil ?_
      refine au_then ?_
      refine wp_seq ?_
      refine rg_lit ?_
      refine pl_val (want_no rfl) (some 46) rfl (.slice (some ⟨gl2, 0, none⟩) l2.length cp2) (fun _ => by kernel_rfl) ?_
      refine pl_val (want_no rfl) (some 47) rfl (.int .i64 ((l2.length : Nat) : Int)) (fun _ => by kernel_rfl) ?_
      refine pl_val (want_no rfl) (some 48) rfl (.int .i64 ((8 - l2.length : Nat) : Int)) (fun w => Eq.trans (b := .ok (.value (.int .i64 (cv .i64 (8 - ((l2.length : Nat) : Int))))) w) (by kernel_rfl) (by rw [cv_i64 (by omega) (by omega)]; congr 3; omega)) ?_
      refine pl_val (want_no rfl) (some 49) rfl (.slice (some ⟨g2, (8 - l2.length), none⟩) (8 - (8 - l2.length)) (8 - (8 - l2.length))) (fun w => (run_slAL 188 101 Tryz.underlying188 inz101 _ _ rfl g2 (by kernel_rfl) .i64 (8 - l2.length) (by kernel_rfl) (by omega) w).trans (by rw [show so (8 - l2.length) = 8 - l2.length from if_neg (by have := List.length_pos_iff.2 he2; omega)])) ?_
      refine pl_val (want_no rfl) (some 50) rfl (.slice (some ⟨gl2, 0, none⟩) l2.length cp2) (fun _ => by kernel_rfl) ?_
      refine pl_copyC M (want_no rfl) (some 51) rfl 193 193 3 101 Tryz.underlying193 inz101 3 g2 8 188 (w16 (cpl (fun _ => 0) 0 l1)) rfl gl2 (w16 (tgi l2)) (8 - l2.length) (8 - (8 - l2.length)) (8 - (8 - l2.length)) 0 l2.length cp2 l2.length (by show _ = min _ _; omega) (by omega) (fun w M j hj => by rw [Nat.zero_add]; exact hZ2.cell (M.get 2 rfl) (v16_at _ _ hj)) (fun _ => rfl) (w16 (cpl (cpl (fun _ => 0) 0 l1) (8 - l2.length) l2)) (fun j _ => cpl_w16 _ _ _ j) (fun _ => by kernel_rfl) ?_
      intro u7 M
      replace M : Mem ⟨w, []⟩ [⟨g1, .cells (av 3 (ls [.bool false, .int .u64 0, .int .u64 0])) 49⟩, ⟨gl1, Z1⟩, ⟨gl2, Z2⟩, ⟨g2, .cells (av 8 (w16 (cpl (cpl (fun _ => 0) 0 l1) (8 - l2.length) l2))) 188⟩] u7 := M
      refine pl_nil ?_
      refine au_then ?_
      refine wp_seq ?_
      refine rg_lit ?_
      refine pl_load M (want_no rfl) (some 52) rfl 188 _ rfl 3 g2 0 (by kernel_rfl) 8 188 (w16 (cpl (cpl (fun _ => 0) 0 l1) (8 - l2.length) l2)) rfl 8 (w16 (cpl (cpl (fun _ => 0) 0 l1) (8 - l2.length) l2)) (fun j _ => by rw [Nat.zero_add]) (by decide) _ Tryz.underlying188 rfl inz188 ?_
      refine pl_call M (want_no rfl) (some 53) rfl 219 #[.agg (av 8 (w16 (cpl (cpl (fun _ => 0) 0 l1) (8 - l2.length) l2)))] (.agg (av 3 (ls [.bool true, .int .u64 (adH (cpl (cpl (fun _ => 0) 0 l1) (8 - l2.length) l2)), .int .u64 (adL (cpl (cpl (fun _ => 0) 0 l1) (8 - l2.length) l2))]))) (fun _ => by kernel_rfl) (fun w M => c_addr (cpl (cpl (fun _ => 0) 0 l1) (8 - l2.length) l2) w M.laid) ?_
      intro u8 M
      refine pl_put M (want_no rfl) rfl 49 _ _ rfl 0 g1 0 (by kernel_rfl) 3 49 (ls [.bool false, .int .u64 0, .int .u64 0]) rfl 3 (ls [.bool true, .int .u64 (adH (cpl (cpl (fun _ => 0) 0 l1) (8 - l2.length) l2)), .int .u64 (adL (cpl (cpl (fun _ => 0) 0 l1) (8 - l2.length) l2))]) (ls [.bool true, .int .u64 (adH (cpl (cpl (fun _ => 0) 0 l1) (8 - l2.length) l2)), .int .u64 (adL (cpl (cpl (fun _ => 0) 0 l1) (8 - l2.length) l2))]) (by kernel_rfl) inz49 (by decide) (one_ls _ rfl) (fun j hj => by rw [if_pos (by omega), Nat.sub_zero]) ?_
      intro u9 M
      replace M : Mem ⟨w, []⟩ [⟨g1, .cells (av 3 (ls [.bool true, .int .u64 (adH (cpl (cpl (fun _ => 0) 0 l1) (8 - l2.length) l2)), .int .u64 (adL (cpl (cpl (fun _ => 0) 0 l1) (8 - l2.length) l2))])) 49⟩, ⟨gl1, Z1⟩, ⟨gl2, Z2⟩, ⟨g2, .cells (av 8 (w16 (cpl (cpl (fun _ => 0) 0 l1) (8 - l2.length) l2))) 188⟩] u9 := M
      refine pl_val (want_no rfl) (some 3) rfl (.bool true) (fun _ => by kernel_rfl) ?_
      refine pl_nil ?_
      refine au_then ?_
      refine wp_ret ?_
      have e0 : (lk6 s).isSome = true := by rw [(show lk6 s = some (adH (g6 l1 l2), adL (g6 l1 l2)) by unfold lk6; rw [hN1, hN2]; exact if_neg (by omega))]; rfl
      have e1 : ((lk6 s).getD (0, 0)).1 = (adH (cpl (cpl (fun _ => 0) 0 l1) (8 - l2.length) l2)) := by rw [(show lk6 s = some (adH (g6 l1 l2), adL (g6 l1 l2)) by unfold lk6; rw [hN1, hN2]; exact if_neg (by omega))]; show adH (g6 l1 l2) = _; unfold g6; rfl
      have e2 : ((lk6 s).getD (0, 0)).2 = (adL (cpl (cpl (fun _ => 0) 0 l1) (8 - l2.length) l2)) := by rw [(show lk6 s = some (adH (g6 l1 l2), adL (g6 l1 l2)) by unfold lk6; rw [hN1, hN2]; exact if_neg (by omega))]; show adL (g6 l1 l2) = _; unfold g6; rfl
      exact bodyPost_ret (v := .tuple #[.agg (av 3 (ls [.bool true, .int .u64 (adH (cpl (cpl (fun _ => 0) 0 l1) (8 - l2.length) l2)), .int .u64 (adL (cpl (cpl (fun _ => 0) 0 l1) (8 - l2.length) l2))])), .bool true]) (results_cell_tmp Tryz.results210 _ _ g1 49 (av 3 (ls [.bool true, .int .u64 (adH (cpl (cpl (fun _ => 0) 0 l1) (8 - l2.length) l2)), .int .u64 (adL (cpl (cpl (fun _ => 0) 0 l1) (8 - l2.length) l2))])) (0, 0) _ _ (by kernel_rfl) (by kernel_rfl) (M.get 0 rfl) Tryz.underlying49 rfl (by rw [av_size]; exact inz49)) (by kernel_rfl) ⟨by rw [e0, e1, e2], below_grown M.old⟩
end Go.Proofs.YtbdgncndhnnjoaaGreatDoor.Ip

namespace Go.Proofs.YtbdgncndhnnjoaaGreatDoor.Ip
set_option linter.unusedSimpArgs false
open Go.RowKit
def zB (e : Int) (x : Bool) : Bool := if e = 0 then x else false
def zI (e x : Int) : Int := if e = 0 then x else 0
def lV (s : ByteArray) : Bool := if (39 : Int) < (s.size : Int) then false else if ctn s ⟨#[58]⟩ = true then (lk6 s).isSome else false
def lH (s : ByteArray) : Int := if (39 : Int) < (s.size : Int) then 0 else if ctn s ⟨#[58]⟩ = true then ((lk6 s).getD (0, 0)).1 else 0
def lL (s : ByteArray) : Int := if (39 : Int) < (s.size : Int) then 0 else if ctn s ⟨#[58]⟩ = true then ((lk6 s).getD (0, 0)).2 else (lk4 s).getD 0
def lI (s : ByteArray) : Bool := if (39 : Int) < (s.size : Int) then false else if ctn s ⟨#[58]⟩ = true then (lk6 s).isSome else (lk4 s).isSome
def rdE (s : ByteArray) : Int := if lI s = true then (if txt (lV s) (lH s) (lL s) = s then 0 else 8) else 8
set_option maxRecDepth 100000 in
set_option maxHeartbeats 4000000 in
set_option linter.unusedSimpArgs false in
theorem c_likely (s : ByteArray) (w : World) (hL : Laid w)  :
  Calls Tryz.prog 192 #[.string s] w fun r w' => r = .returned (.tuple #[.agg (av 3 (ls [.bool (lV s), .int .u64 (lH s), .int .u64 (lL s)])), .bool ((lI s))]) ∧ Below w.heap.size w w' := by
 go_enter Tryz.func192, Tryz.ntmps192
 have M := Mem.start hL
 refine wp_seq ?_
 refine rg_lit ?_
 refine pl_new M (want_no rfl) (some 2) rfl (.cells (av 3 (ls [.bool false, .int .u64 0, .int .u64 0])) 49) (fun _ => by kernel_rfl) ?_
 intro g1 u1 M
 replace M : Mem ⟨w, []⟩ [⟨g1, .cells (av 3 (ls [.bool false, .int .u64 0, .int .u64 0])) 49⟩] u1 := M
 refine pl_val (want_no rfl) (some 3) rfl (.bool false) (fun _ => by kernel_rfl) ?_
 refine pl_nil ?_
 refine au_then ?_
 refine wp_seq ?_
 refine wp_block ?_
 refine wp_seq ?_
 refine rg_lit ?_
 refine pl_val (want_no rfl) (some 5) rfl (.string s) (fun _ => by kernel_rfl) ?_
 refine pl_val (want_no rfl) (some 6) rfl (.int .i64 (s.size : Int)) (fun _ => by kernel_rfl) ?_
 by_cases c0 : 39 < (s.size : Int)
 ·skip
  refine pl_val (want_no rfl) (some 7) rfl (.bool true) (fun w => Eq.trans (b := .ok (.value (.bool (decide (39 < (s.size : Int))))) w) (by kernel_rfl) (by rw [decide_eq_true (c0)])) ?_
  refine pl_val (want_no rfl) (some 4) rfl (.bool true) (fun _ => by kernel_rfl) ?_
  refine pl_nil ?_
  refine au_then ?_
  refine wp_cond_true (by kernel_rfl) ?_
  refine wp_seq ?_
  refine rg_lit ?_
  refine pl_val (want_no rfl) (some 8) rfl (.agg (av 3 (ls [.bool false, .int .u64 0, .int .u64 0]))) (fun _ => by kernel_rfl) ?_
  refine pl_put M (want_no rfl) rfl 49 _ _ rfl 0 g1 0 (by kernel_rfl) 3 49 (ls [.bool false, .int .u64 0, .int .u64 0]) rfl 3 (ls [.bool false, .int .u64 0, .int .u64 0]) (ls [.bool false, .int .u64 0, .int .u64 0]) (by kernel_rfl) inz49 (by decide) (one_ls _ rfl) (fun j hj => by rw [if_pos (by omega), Nat.sub_zero]) ?_
  intro u2 M
  replace M : Mem ⟨w, []⟩ [⟨g1, .cells (av 3 (ls [.bool false, .int .u64 0, .int .u64 0])) 49⟩] u2 := M
  refine pl_val (want_no rfl) (some 3) rfl (.bool false) (fun _ => by kernel_rfl) ?_
  refine pl_nil ?_
  refine au_then ?_
  refine wp_ret ?_
  refine au_block_ret ?_
  refine au_then_ret ?_
  have e0 : lV s = false := by unfold lV; rw [if_pos c0]
  have e1 : (lH s) = 0 := by unfold lH; rw [if_pos c0]
  have e2 : (lL s) = 0 := by unfold lL; rw [if_pos c0]
  have e3 : (lI s) = false := by unfold lI; rw [if_pos c0]
  exact bodyPost_ret (v := .tuple #[.agg (av 3 (ls [.bool false, .int .u64 0, .int .u64 0])), .bool false]) (results_cell_tmp Tryz.results192 _ _ g1 49 (av 3 (ls [.bool false, .int .u64 0, .int .u64 0])) (0, 0) _ _ (by kernel_rfl) (by kernel_rfl) (M.get 0 rfl) Tryz.underlying49 rfl (by rw [av_size]; exact inz49)) (by kernel_rfl) ⟨by rw [e0, e1, e2, e3], below_grown M.old⟩
 ·skip
  refine pl_val (want_no rfl) (some 7) rfl (.bool false) (fun w => Eq.trans (b := .ok (.value (.bool (decide (39 < (s.size : Int))))) w) (by kernel_rfl) (by rw [decide_eq_false (c0)])) ?_
  refine pl_val (want_no rfl) (some 4) rfl (.bool false) (fun _ => by kernel_rfl) ?_
  refine pl_nil ?_
  refine au_then ?_
  refine wp_cond_false (by kernel_rfl) ?_
  refine wp_seq ?_
  refine rg_lit ?_
  refine pl_val (want_no rfl) (some 10) rfl (.string s) (fun _ => by kernel_rfl) ?_
  rcases Bool.eq_false_or_eq_true (ctn s ⟨#[58]⟩) with c1 | c1
  ·skip
   refine pl_call M (want_no rfl) (some 11) rfl 209 #[.string s, .string ⟨#[58]⟩] (.bool true) (fun _ => by kernel_rfl) (fun w M => call_val (c_Contains s ⟨#[58]⟩ (by omega) w M.laid) (congrArg Value.bool c1)) ?_
   intro u2 M
   refine pl_val (want_no rfl) (some 9) rfl (.bool true) (fun _ => by kernel_rfl) ?_
   refine pl_nil ?_
   refine au_then ?_
   refine wp_cond_true (by kernel_rfl) ?_
   refine wp_seq ?_
   refine rg_lit ?_
   refine pl_val (want_no rfl) (some 12) rfl (.string s) (fun _ => by kernel_rfl) ?_
   refine pl_call M (want_no rfl) (some 13) rfl 210 #[.string s] (.tuple #[.agg (av 3 (ls [.bool ((lk6 s).isSome), .int .u64 ((lk6 s).getD (0, 0)).1, .int .u64 ((lk6 s).getD (0, 0)).2])), .bool (lk6 s).isSome]) (fun _ => by kernel_rfl) (fun w M => c_likely6 s (by omega) w M.laid) ?_
   intro u3 M
   refine pl_val (want_no rfl) (some 14) rfl (.agg (av 3 (ls [.bool ((lk6 s).isSome), .int .u64 ((lk6 s).getD (0, 0)).1, .int .u64 ((lk6 s).getD (0, 0)).2]))) (fun _ => by kernel_rfl) ?_
   refine pl_val (want_no rfl) (some 15) rfl (.bool (lk6 s).isSome) (fun _ => by kernel_rfl) ?_
   refine pl_put M (want_no rfl) rfl 49 _ _ rfl 0 g1 0 (by kernel_rfl) 3 49 (ls [.bool false, .int .u64 0, .int .u64 0]) rfl 3 (ls [.bool ((lk6 s).isSome), .int .u64 ((lk6 s).getD (0, 0)).1, .int .u64 ((lk6 s).getD (0, 0)).2]) (ls [.bool ((lk6 s).isSome), .int .u64 ((lk6 s).getD (0, 0)).1, .int .u64 ((lk6 s).getD (0, 0)).2]) (by kernel_rfl) inz49 (by decide) (one_ls _ rfl) (fun j hj => by rw [if_pos (by omega), Nat.sub_zero]) ?_
   intro u4 M
   replace M : Mem ⟨w, []⟩ [⟨g1, .cells (av 3 (ls [.bool ((lk6 s).isSome), .int .u64 ((lk6 s).getD (0, 0)).1, .int .u64 ((lk6 s).getD (0, 0)).2])) 49⟩] u4 := M
   refine pl_val (want_no rfl) (some 3) rfl (.bool (lk6 s).isSome) (fun _ => by kernel_rfl) ?_
   refine pl_nil ?_
   refine au_then ?_
   refine wp_ret ?_
   refine au_block_ret ?_
   refine au_then_ret ?_
   have e0 : lV s = (lk6 s).isSome := by unfold lV; rw [if_neg c0, if_pos c1]
   have e1 : (lH s) = ((lk6 s).getD (0, 0)).1 := by unfold lH; rw [if_neg c0, if_pos c1]
   have e2 : (lL s) = ((lk6 s).getD (0, 0)).2 := by unfold lL; rw [if_neg c0, if_pos c1]
   have e3 : (lI s) = (lk6 s).isSome := by unfold lI; rw [if_neg c0, if_pos c1]
   exact bodyPost_ret (v := .tuple #[.agg (av 3 (ls [.bool ((lk6 s).isSome), .int .u64 ((lk6 s).getD (0, 0)).1, .int .u64 ((lk6 s).getD (0, 0)).2])), .bool (lk6 s).isSome]) (results_cell_tmp Tryz.results192 _ _ g1 49 (av 3 (ls [.bool ((lk6 s).isSome), .int .u64 ((lk6 s).getD (0, 0)).1, .int .u64 ((lk6 s).getD (0, 0)).2])) (0, 0) _ _ (by kernel_rfl) (by kernel_rfl) (M.get 0 rfl) Tryz.underlying49 rfl (by rw [av_size]; exact inz49)) (by kernel_rfl) ⟨by rw [e0, e1, e2, e3], below_grown M.old⟩
  ·skip
   refine pl_call M (want_no rfl) (some 11) rfl 209 #[.string s, .string ⟨#[58]⟩] (.bool false) (fun _ => by kernel_rfl) (fun w M => call_val (c_Contains s ⟨#[58]⟩ (by omega) w M.laid) (congrArg Value.bool c1)) ?_
   intro u2 M
   refine pl_val (want_no rfl) (some 9) rfl (.bool false) (fun _ => by kernel_rfl) ?_
   refine pl_nil ?_
   refine au_then ?_
   refine wp_cond_false (by kernel_rfl) ?_
   refine wp_skip ?_
   refine au_block ?_
   refine au_then ?_
   refine wp_seq ?_
   refine rg_lit ?_
   refine pl_val (want_no rfl) (some 16) rfl (.string s) (fun _ => by kernel_rfl) ?_
   refine pl_call M (want_no rfl) (some 17) rfl 211 #[.string s] (.tuple #[.agg (av 3 (ls [.bool false, .int .u64 0, .int .u64 ((lk4 s).getD 0)])), .bool (lk4 s).isSome]) (fun _ => by kernel_rfl) (fun w M => c_likely4 s (by omega) w M.laid) ?_
   intro u3 M
   refine pl_val (want_no rfl) (some 18) rfl (.agg (av 3 (ls [.bool false, .int .u64 0, .int .u64 ((lk4 s).getD 0)]))) (fun _ => by kernel_rfl) ?_
   refine pl_val (want_no rfl) (some 19) rfl (.bool (lk4 s).isSome) (fun _ => by kernel_rfl) ?_
   refine pl_put M (want_no rfl) rfl 49 _ _ rfl 0 g1 0 (by kernel_rfl) 3 49 (ls [.bool false, .int .u64 0, .int .u64 0]) rfl 3 (ls [.bool false, .int .u64 0, .int .u64 ((lk4 s).getD 0)]) (ls [.bool false, .int .u64 0, .int .u64 ((lk4 s).getD 0)]) (by kernel_rfl) inz49 (by decide) (one_ls _ rfl) (fun j hj => by rw [if_pos (by omega), Nat.sub_zero]) ?_
   intro u4 M
   replace M : Mem ⟨w, []⟩ [⟨g1, .cells (av 3 (ls [.bool false, .int .u64 0, .int .u64 ((lk4 s).getD 0)])) 49⟩] u4 := M
   refine pl_val (want_no rfl) (some 3) rfl (.bool (lk4 s).isSome) (fun _ => by kernel_rfl) ?_
   refine pl_nil ?_
   refine au_then ?_
   refine wp_ret ?_
   have e0 : lV s = false := by unfold lV; rw [if_neg c0, if_neg (by rw [c1]; decide)]
   have e1 : (lH s) = 0 := by unfold lH; rw [if_neg c0, if_neg (by rw [c1]; decide)]
   have e2 : (lL s) = ((lk4 s).getD 0) := by unfold lL; rw [if_neg c0, if_neg (by rw [c1]; decide)]
   have e3 : (lI s) = (lk4 s).isSome := by unfold lI; rw [if_neg c0, if_neg (by rw [c1]; decide)]
   exact bodyPost_ret (v := .tuple #[.agg (av 3 (ls [.bool false, .int .u64 0, .int .u64 ((lk4 s).getD 0)])), .bool (lk4 s).isSome]) (results_cell_tmp Tryz.results192 _ _ g1 49 (av 3 (ls [.bool false, .int .u64 0, .int .u64 ((lk4 s).getD 0)])) (0, 0) _ _ (by kernel_rfl) (by kernel_rfl) (M.get 0 rfl) Tryz.underlying49 rfl (by rw [av_size]; exact inz49)) (by kernel_rfl) ⟨by rw [e0, e1, e2, e3], below_grown M.old⟩
set_option maxRecDepth 100000 in
set_option maxHeartbeats 4000000 in
set_option linter.unusedSimpArgs false in
theorem c_Read (s : ByteArray) (w : World) (hL : Laid w)  :
  Calls Tryz.prog 164 #[.string s] w fun r w' => r = .returned (.tuple #[.agg (av 3 (ls [.bool (zB (rdE s) (lV s)), .int .u64 (zI (rdE s) (lH s)), .int .u64 (zI (rdE s) (lL s))])), .int .i64 (rdE s)]) ∧ Below w.heap.size w w' := by
 go_enter Tryz.func164, Tryz.ntmps164
 have M := Mem.start hL
 refine wp_seq ?_
 refine rg_lit ?_
 refine pl_new M (want_no rfl) (some 2) rfl (.cells (av 3 (ls [.bool false, .int .u64 0, .int .u64 0])) 49) (fun _ => by kernel_rfl) ?_
 intro g1 u1 M
 replace M : Mem ⟨w, []⟩ [⟨g1, .cells (av 3 (ls [.bool false, .int .u64 0, .int .u64 0])) 49⟩] u1 := M
 refine pl_val (want_no rfl) (some 3) rfl (.int .i64 0) (fun _ => by kernel_rfl) ?_
 refine pl_nil ?_
 refine au_then ?_
 refine wp_seq ?_
 refine wp_seq ?_
 refine rg_lit ?_
 refine pl_val (want_no rfl) (some 7) rfl (.string s) (fun _ => by kernel_rfl) ?_
 rcases Bool.eq_false_or_eq_true (lI s) with c0 | c0
 ·skip
  refine pl_call M (want_no rfl) (some 8) rfl 192 #[.string s] (.tuple #[.agg (av 3 (ls [.bool (lV s), .int .u64 (lH s), .int .u64 (lL s)])), .bool true]) (fun _ => by kernel_rfl) (fun w M => call_val (c_likely s w M.laid) (by rw [c0])) ?_
  intro u2 M
  refine pl_val (want_no rfl) (some 6) rfl (.tuple #[.agg (av 3 (ls [.bool (lV s), .int .u64 (lH s), .int .u64 (lL s)])), .bool true]) (fun _ => by kernel_rfl) ?_
  refine pl_val (want_no rfl) (some 9) rfl (.agg (av 3 (ls [.bool (lV s), .int .u64 (lH s), .int .u64 (lL s)]))) (fun _ => by kernel_rfl) ?_
  refine pl_val (want_no rfl) (some 10) rfl (.bool true) (fun _ => by kernel_rfl) ?_
  refine pl_new M (want_no rfl) (some 4) rfl (.cells (av 3 (ls [.bool false, .int .u64 0, .int .u64 0])) 49) (fun _ => by kernel_rfl) ?_
  intro g2 u3 M
  replace M : Mem ⟨w, []⟩ [⟨g1, .cells (av 3 (ls [.bool false, .int .u64 0, .int .u64 0])) 49⟩, ⟨g2, .cells (av 3 (ls [.bool false, .int .u64 0, .int .u64 0])) 49⟩] u3 := M
  refine pl_put M (want_no rfl) rfl 49 _ _ rfl 1 g2 0 (by kernel_rfl) 3 49 (ls [.bool false, .int .u64 0, .int .u64 0]) rfl 3 (ls [.bool (lV s), .int .u64 (lH s), .int .u64 (lL s)]) (ls [.bool (lV s), .int .u64 (lH s), .int .u64 (lL s)]) (by kernel_rfl) inz49 (by decide) (one_ls _ rfl) (fun j hj => by rw [if_pos (by omega), Nat.sub_zero]) ?_
  intro u4 M
  replace M : Mem ⟨w, []⟩ [⟨g1, .cells (av 3 (ls [.bool false, .int .u64 0, .int .u64 0])) 49⟩, ⟨g2, .cells (av 3 (ls [.bool (lV s), .int .u64 (lH s), .int .u64 (lL s)])) 49⟩] u4 := M
  refine pl_val (want_no rfl) (some 5) rfl (.bool true) (fun _ => by kernel_rfl) ?_
  refine pl_nil ?_
  refine au_then ?_
  refine wp_seq ?_
  refine rg_lit ?_
  refine pl_val (want_no rfl) (some 11) rfl (.bool true) (fun _ => by kernel_rfl) ?_
  refine pl_val (want_no rfl) (some 12) rfl (.bool true) (fun _ => by kernel_rfl) ?_
  refine pl_load M (want_on 1 true rfl 12 rfl (by kernel_rfl)) (some 13) rfl 49 _ rfl 1 g2 0 (by kernel_rfl) 3 49 (ls [.bool (lV s), .int .u64 (lH s), .int .u64 (lL s)]) rfl 3 (ls [.bool (lV s), .int .u64 (lH s), .int .u64 (lL s)]) (fun j _ => by rw [Nat.zero_add]) (by decide) _ Tryz.underlying49 rfl inz49 ?_
  refine pl_call M (want_on 1 true rfl 12 rfl (by kernel_rfl)) (some 14) rfl 81 #[.agg (av 3 (ls [.bool (lV s), .int .u64 (lH s), .int .u64 (lL s)]))] (.string (txt (lV s) (lH s) (lL s))) (fun _ => by kernel_rfl) (fun w M => c_Text (lV s) (lH s) (lL s) w M.laid) ?_
  intro u5 M
  refine pl_val (want_on 1 true rfl 12 rfl (by kernel_rfl)) (some 15) rfl (.string s) (fun _ => by kernel_rfl) ?_
  by_cases c1 : (txt (lV s) (lH s) (lL s)) = s
  ·skip
   refine pl_val (want_on 1 true rfl 12 rfl (by kernel_rfl)) (some 16) rfl (.bool true) (fun w => Eq.trans (b := .ok (.value (.bool ((txt (lV s) (lH s) (lL s)).toList == s.toList))) w) (by kernel_rfl) (by rw [seq_pos c1])) ?_
   refine pl_val (want_no rfl) (some 17) rfl (.bool true) (fun _ => by kernel_rfl) ?_
   refine pl_nil ?_
   refine au_then ?_
   refine wp_cond_true (by kernel_rfl) ?_
   refine wp_seq ?_
   refine rg_lit ?_
   refine pl_load M (want_no rfl) (some 18) rfl 49 _ rfl 1 g2 0 (by kernel_rfl) 3 49 (ls [.bool (lV s), .int .u64 (lH s), .int .u64 (lL s)]) rfl 3 (ls [.bool (lV s), .int .u64 (lH s), .int .u64 (lL s)]) (fun j _ => by rw [Nat.zero_add]) (by decide) _ Tryz.underlying49 rfl inz49 ?_
   refine pl_put M (want_no rfl) rfl 49 _ _ rfl 0 g1 0 (by kernel_rfl) 3 49 (ls [.bool false, .int .u64 0, .int .u64 0]) rfl 3 (ls [.bool (lV s), .int .u64 (lH s), .int .u64 (lL s)]) (ls [.bool (lV s), .int .u64 (lH s), .int .u64 (lL s)]) (by kernel_rfl) inz49 (by decide) (one_ls _ rfl) (fun j hj => by rw [if_pos (by omega), Nat.sub_zero]) ?_
   intro u6 M
   replace M : Mem ⟨w, []⟩ [⟨g1, .cells (av 3 (ls [.bool (lV s), .int .u64 (lH s), .int .u64 (lL s)])) 49⟩, ⟨g2, .cells (av 3 (ls [.bool (lV s), .int .u64 (lH s), .int .u64 (lL s)])) 49⟩] u6 := M
   refine pl_val (want_no rfl) (some 3) rfl (.int .i64 0) (fun _ => by kernel_rfl) ?_
   refine pl_nil ?_
   refine au_then ?_
   refine wp_ret ?_
   refine au_then_ret ?_
   have e0 : zB (rdE s) (lV s) = lV s := by rw [(show rdE s = 0 by unfold rdE; rw [if_pos c0, if_pos c1])]; rfl
   have e1 : (zI (rdE s) (lH s)) = (lH s) := by rw [(show rdE s = 0 by unfold rdE; rw [if_pos c0, if_pos c1])]; rfl
   have e2 : (zI (rdE s) (lL s)) = (lL s) := by rw [(show rdE s = 0 by unfold rdE; rw [if_pos c0, if_pos c1])]; rfl
   have e3 : (rdE s) = 0 := (show rdE s = 0 by unfold rdE; rw [if_pos c0, if_pos c1])
   exact bodyPost_ret (v := .tuple #[.agg (av 3 (ls [.bool (lV s), .int .u64 (lH s), .int .u64 (lL s)])), .int .i64 0]) (results_cell_tmp Tryz.results164 _ _ g1 49 (av 3 (ls [.bool (lV s), .int .u64 (lH s), .int .u64 (lL s)])) (0, 0) _ _ (by kernel_rfl) (by kernel_rfl) (M.get 0 rfl) Tryz.underlying49 rfl (by rw [av_size]; exact inz49)) (by kernel_rfl) ⟨by rw [e0, e1, e2, e3], below_grown M.old⟩
  ·skip
   refine pl_val (want_on 1 true rfl 12 rfl (by kernel_rfl)) (some 16) rfl (.bool false) (fun w => Eq.trans (b := .ok (.value (.bool ((txt (lV s) (lH s) (lL s)).toList == s.toList))) w) (by kernel_rfl) (by rw [seq_neg c1])) ?_
   refine pl_val (want_no rfl) (some 17) rfl (.bool false) (fun _ => by kernel_rfl) ?_
   refine pl_nil ?_
   refine au_then ?_
   refine wp_cond_false (by kernel_rfl) ?_
   refine wp_skip ?_
   refine au_then ?_
   refine wp_seq ?_
   refine rg_lit ?_
   refine pl_val (want_no rfl) (some 19) rfl (.agg (av 3 (ls [.bool false, .int .u64 0, .int .u64 0]))) (fun _ => by kernel_rfl) ?_
   refine pl_put M (want_no rfl) rfl 49 _ _ rfl 0 g1 0 (by kernel_rfl) 3 49 (ls [.bool false, .int .u64 0, .int .u64 0]) rfl 3 (ls [.bool false, .int .u64 0, .int .u64 0]) (ls [.bool false, .int .u64 0, .int .u64 0]) (by kernel_rfl) inz49 (by decide) (one_ls _ rfl) (fun j hj => by rw [if_pos (by omega), Nat.sub_zero]) ?_
   intro u6 M
   replace M : Mem ⟨w, []⟩ [⟨g1, .cells (av 3 (ls [.bool false, .int .u64 0, .int .u64 0])) 49⟩, ⟨g2, .cells (av 3 (ls [.bool (lV s), .int .u64 (lH s), .int .u64 (lL s)])) 49⟩] u6 := M
   refine pl_val (want_no rfl) (some 3) rfl (.int .i64 8) (fun _ => by kernel_rfl) ?_
   refine pl_nil ?_
   refine au_then ?_
   refine wp_ret ?_
   have e0 : zB (rdE s) (lV s) = false := by rw [(show rdE s = 8 by unfold rdE; rw [if_pos c0, if_neg c1])]; rfl
   have e1 : (zI (rdE s) (lH s)) = 0 := by rw [(show rdE s = 8 by unfold rdE; rw [if_pos c0, if_neg c1])]; rfl
   have e2 : (zI (rdE s) (lL s)) = 0 := by rw [(show rdE s = 8 by unfold rdE; rw [if_pos c0, if_neg c1])]; rfl
   have e3 : (rdE s) = 8 := (show rdE s = 8 by unfold rdE; rw [if_pos c0, if_neg c1])
   exact bodyPost_ret (v := .tuple #[.agg (av 3 (ls [.bool false, .int .u64 0, .int .u64 0])), .int .i64 8]) (results_cell_tmp Tryz.results164 _ _ g1 49 (av 3 (ls [.bool false, .int .u64 0, .int .u64 0])) (0, 0) _ _ (by kernel_rfl) (by kernel_rfl) (M.get 0 rfl) Tryz.underlying49 rfl (by rw [av_size]; exact inz49)) (by kernel_rfl) ⟨by rw [e0, e1, e2, e3], below_grown M.old⟩
 ·skip
  refine pl_call M (want_no rfl) (some 8) rfl 192 #[.string s] (.tuple #[.agg (av 3 (ls [.bool (lV s), .int .u64 (lH s), .int .u64 (lL s)])), .bool false]) (fun _ => by kernel_rfl) (fun w M => call_val (c_likely s w M.laid) (by rw [c0])) ?_
  intro u2 M
  refine pl_val (want_no rfl) (some 6) rfl (.tuple #[.agg (av 3 (ls [.bool (lV s), .int .u64 (lH s), .int .u64 (lL s)])), .bool false]) (fun _ => by kernel_rfl) ?_
  refine pl_val (want_no rfl) (some 9) rfl (.agg (av 3 (ls [.bool (lV s), .int .u64 (lH s), .int .u64 (lL s)]))) (fun _ => by kernel_rfl) ?_
  refine pl_val (want_no rfl) (some 10) rfl (.bool false) (fun _ => by kernel_rfl) ?_
  refine pl_new M (want_no rfl) (some 4) rfl (.cells (av 3 (ls [.bool false, .int .u64 0, .int .u64 0])) 49) (fun _ => by kernel_rfl) ?_
  intro g2 u3 M
  replace M : Mem ⟨w, []⟩ [⟨g1, .cells (av 3 (ls [.bool false, .int .u64 0, .int .u64 0])) 49⟩, ⟨g2, .cells (av 3 (ls [.bool false, .int .u64 0, .int .u64 0])) 49⟩] u3 := M
  refine pl_put M (want_no rfl) rfl 49 _ _ rfl 1 g2 0 (by kernel_rfl) 3 49 (ls [.bool false, .int .u64 0, .int .u64 0]) rfl 3 (ls [.bool (lV s), .int .u64 (lH s), .int .u64 (lL s)]) (ls [.bool (lV s), .int .u64 (lH s), .int .u64 (lL s)]) (by kernel_rfl) inz49 (by decide) (one_ls _ rfl) (fun j hj => by rw [if_pos (by omega), Nat.sub_zero]) ?_
  intro u4 M
  replace M : Mem ⟨w, []⟩ [⟨g1, .cells (av 3 (ls [.bool false, .int .u64 0, .int .u64 0])) 49⟩, ⟨g2, .cells (av 3 (ls [.bool (lV s), .int .u64 (lH s), .int .u64 (lL s)])) 49⟩] u4 := M
  refine pl_val (want_no rfl) (some 5) rfl (.bool false) (fun _ => by kernel_rfl) ?_
  refine pl_nil ?_
  refine au_then ?_
  refine wp_seq ?_
  refine rg_lit ?_
  refine pl_val (want_no rfl) (some 11) rfl (.bool false) (fun _ => by kernel_rfl) ?_
  refine pl_val (want_no rfl) (some 12) rfl (.bool false) (fun _ => by kernel_rfl) ?_
  refine pl_skip (want_off 1 true rfl 12 rfl (by kernel_rfl)) (some 13) rfl ?_
  refine pl_skip (want_off 1 true rfl 12 rfl (by kernel_rfl)) (some 14) rfl ?_
  refine pl_skip (want_off 1 true rfl 12 rfl (by kernel_rfl)) (some 15) rfl ?_
  refine pl_skip (want_off 1 true rfl 12 rfl (by kernel_rfl)) (some 16) rfl ?_
  refine pl_val (want_no rfl) (some 17) rfl (.bool false) (fun _ => by kernel_rfl) ?_
  refine pl_nil ?_
  refine au_then ?_
  refine wp_cond_false (by kernel_rfl) ?_
  refine wp_skip ?_
  refine au_then ?_
  refine wp_seq ?_
  refine rg_lit ?_
  refine pl_val (want_no rfl) (some 19) rfl (.agg (av 3 (ls [.bool false, .int .u64 0, .int .u64 0]))) (fun _ => by kernel_rfl) ?_
  refine pl_put M (want_no rfl) rfl 49 _ _ rfl 0 g1 0 (by kernel_rfl) 3 49 (ls [.bool false, .int .u64 0, .int .u64 0]) rfl 3 (ls [.bool false, .int .u64 0, .int .u64 0]) (ls [.bool false, .int .u64 0, .int .u64 0]) (by kernel_rfl) inz49 (by decide) (one_ls _ rfl) (fun j hj => by rw [if_pos (by omega), Nat.sub_zero]) ?_
  intro u5 M
  replace M : Mem ⟨w, []⟩ [⟨g1, .cells (av 3 (ls [.bool false, .int .u64 0, .int .u64 0])) 49⟩, ⟨g2, .cells (av 3 (ls [.bool (lV s), .int .u64 (lH s), .int .u64 (lL s)])) 49⟩] u5 := M
  refine pl_val (want_no rfl) (some 3) rfl (.int .i64 8) (fun _ => by kernel_rfl) ?_
  refine pl_nil ?_
  refine au_then ?_
  refine wp_ret ?_
  have e0 : zB (rdE s) (lV s) = false := by rw [(show rdE s = 8 by unfold rdE; rw [if_neg (by rw [c0]; decide)])]; rfl
  have e1 : (zI (rdE s) (lH s)) = 0 := by rw [(show rdE s = 8 by unfold rdE; rw [if_neg (by rw [c0]; decide)])]; rfl
  have e2 : (zI (rdE s) (lL s)) = 0 := by rw [(show rdE s = 8 by unfold rdE; rw [if_neg (by rw [c0]; decide)])]; rfl
  have e3 : (rdE s) = 8 := (show rdE s = 8 by unfold rdE; rw [if_neg (by rw [c0]; decide)])
  exact bodyPost_ret (v := .tuple #[.agg (av 3 (ls [.bool false, .int .u64 0, .int .u64 0])), .int .i64 8]) (results_cell_tmp Tryz.results164 _ _ g1 49 (av 3 (ls [.bool false, .int .u64 0, .int .u64 0])) (0, 0) _ _ (by kernel_rfl) (by kernel_rfl) (M.get 0 rfl) Tryz.underlying49 rfl (by rw [av_size]; exact inz49)) (by kernel_rfl) ⟨by rw [e0, e1, e2, e3], below_grown M.old⟩
def rpV (s : ByteArray) : Bool := zB (rdE (cuA s ⟨#[47]⟩)) (lV (cuA s ⟨#[47]⟩))
def rpH (s : ByteArray) : Int := zI (rdE (cuA s ⟨#[47]⟩)) (lH (cuA s ⟨#[47]⟩))
def rpL (s : ByteArray) : Int := zI (rdE (cuA s ⟨#[47]⟩)) (lL (cuA s ⟨#[47]⟩))
def rpB (s : ByteArray) : Int := (nmb 10 255 (cuB s ⟨#[47]⟩)).getD 0
def rpE (s : ByteArray) : Int := if rdE (cuA s ⟨#[47]⟩) = 0 then (if (nmb 10 255 (cuB s ⟨#[47]⟩)).isSome = true then (if ptx (rpV s) (rpH s) (rpL s) (rpB s) = s then 0 else 8) else 8) else 8
theorem nmb_le (s : ByteArray) : 0 ≤ (nmb 10 255 s).getD 0 ∧ (nmb 10 255 s).getD 0 ≤ 255 := by
 unfold nmb
 split
 ·decide
 ·cases h : prs 10 255 s with
  | none => decide
  | some x => exact prs_lt10 h
set_option maxRecDepth 100000 in
set_option maxHeartbeats 4000000 in
set_option linter.unusedSimpArgs false in
theorem c_ReadPrefix (s : ByteArray) (hs : s.size ≤ 200000) (w : World) (hL : Laid w)  :
  Calls Tryz.prog 123 #[.string s] w fun r w' => r = .returned (.tuple #[.agg (av 4 (ls [.bool (zB (rpE s) (rpV s)), .int .u64 (zI (rpE s) (rpH s)), .int .u64 (zI (rpE s) (rpL s)), .int .u8 (zI (rpE s) (rpB s))])), .int .i64 (rpE s)]) ∧ Below w.heap.size w w' := by
 go_enter Tryz.func123, Tryz.ntmps123
 have M := Mem.start hL
 refine wp_seq ?_
 refine rg_lit ?_
 refine pl_new M (want_no rfl) (some 2) rfl (.cells (av 4 (ls [.bool false, .int .u64 0, .int .u64 0, .int .u8 0])) 51) (fun _ => by kernel_rfl) ?_
 intro g1 u1 M
 replace M : Mem ⟨w, []⟩ [⟨g1, .cells (av 4 (ls [.bool false, .int .u64 0, .int .u64 0, .int .u8 0])) 51⟩] u1 := M
 refine pl_val (want_no rfl) (some 3) rfl (.int .i64 0) (fun _ => by kernel_rfl) ?_
 refine pl_nil ?_
 refine au_then ?_
 refine wp_seq ?_
 refine rg_lit ?_
 refine pl_val (want_no rfl) (some 13) rfl (.string s) (fun _ => by kernel_rfl) ?_
 refine pl_call M (want_no rfl) (some 14) rfl 163 #[.string s, .string ⟨#[47]⟩] (.tuple #[.string (cuA s ⟨#[47]⟩), .string (cuB s ⟨#[47]⟩), .bool (cuC s ⟨#[47]⟩)]) (fun _ => by kernel_rfl) (fun w M => c_Cut s ⟨#[47]⟩ (by omega) w M.laid) ?_
 intro u2 M
 refine pl_val (want_no rfl) (some 12) rfl (.tuple #[.string (cuA s ⟨#[47]⟩), .string (cuB s ⟨#[47]⟩), .bool (cuC s ⟨#[47]⟩)]) (fun _ => by kernel_rfl) ?_
 refine pl_val (want_no rfl) (some 15) rfl (.string (cuA s ⟨#[47]⟩)) (fun _ => by kernel_rfl) ?_
 refine pl_val (want_no rfl) (some 16) rfl (.string (cuB s ⟨#[47]⟩)) (fun _ => by kernel_rfl) ?_
 refine pl_val (want_no rfl) (some 17) rfl (.bool (cuC s ⟨#[47]⟩)) (fun _ => by kernel_rfl) ?_
 refine pl_val (want_no rfl) (some 4) rfl (.string (cuA s ⟨#[47]⟩)) (fun _ => by kernel_rfl) ?_
 refine pl_val (want_no rfl) (some 5) rfl (.string (cuB s ⟨#[47]⟩)) (fun _ => by kernel_rfl) ?_
 refine pl_val (want_no rfl) (some 6) rfl (.bool (cuC s ⟨#[47]⟩)) (fun _ => by kernel_rfl) ?_
 refine pl_nil ?_
 refine au_then ?_
 refine wp_seq ?_
 refine rg_lit ?_
 refine pl_val (want_no rfl) (some 19) rfl (.string (cuA s ⟨#[47]⟩)) (fun _ => by kernel_rfl) ?_
 refine pl_call M (want_no rfl) (some 20) rfl 164 #[.string (cuA s ⟨#[47]⟩)] (.tuple #[.agg (av 3 (ls [.bool (rpV s), .int .u64 (rpH s), .int .u64 (rpL s)])), .int .i64 (rdE (cuA s ⟨#[47]⟩))]) (fun _ => by kernel_rfl) (fun w M => c_Read (cuA s ⟨#[47]⟩) w M.laid) ?_
 intro u3 M
 refine pl_val (want_no rfl) (some 18) rfl (.tuple #[.agg (av 3 (ls [.bool (rpV s), .int .u64 (rpH s), .int .u64 (rpL s)])), .int .i64 (rdE (cuA s ⟨#[47]⟩))]) (fun _ => by kernel_rfl) ?_
 refine pl_val (want_no rfl) (some 21) rfl (.agg (av 3 (ls [.bool (rpV s), .int .u64 (rpH s), .int .u64 (rpL s)]))) (fun _ => by kernel_rfl) ?_
 refine pl_val (want_no rfl) (some 22) rfl (.int .i64 (rdE (cuA s ⟨#[47]⟩))) (fun _ => by kernel_rfl) ?_
 refine pl_new M (want_no rfl) (some 7) rfl (.cells (av 3 (ls [.bool false, .int .u64 0, .int .u64 0])) 49) (fun _ => by kernel_rfl) ?_
 intro g2 u4 M
 replace M : Mem ⟨w, []⟩ [⟨g1, .cells (av 4 (ls [.bool false, .int .u64 0, .int .u64 0, .int .u8 0])) 51⟩, ⟨g2, .cells (av 3 (ls [.bool false, .int .u64 0, .int .u64 0])) 49⟩] u4 := M
 refine pl_put M (want_no rfl) rfl 49 _ _ rfl 1 g2 0 (by kernel_rfl) 3 49 (ls [.bool false, .int .u64 0, .int .u64 0]) rfl 3 (ls [.bool (rpV s), .int .u64 (rpH s), .int .u64 (rpL s)]) (ls [.bool (rpV s), .int .u64 (rpH s), .int .u64 (rpL s)]) (by kernel_rfl) inz49 (by decide) (one_ls _ rfl) (fun j hj => by rw [if_pos (by omega), Nat.sub_zero]) ?_
 intro u5 M
 replace M : Mem ⟨w, []⟩ [⟨g1, .cells (av 4 (ls [.bool false, .int .u64 0, .int .u64 0, .int .u8 0])) 51⟩, ⟨g2, .cells (av 3 (ls [.bool (rpV s), .int .u64 (rpH s), .int .u64 (rpL s)])) 49⟩] u5 := M
 refine pl_val (want_no rfl) (some 8) rfl (.int .i64 (rdE (cuA s ⟨#[47]⟩))) (fun _ => by kernel_rfl) ?_
 refine pl_nil ?_
 refine au_then ?_
 refine wp_seq ?_
 refine rg_lit ?_
 refine pl_val (want_no rfl) (some 24) rfl (.string (cuB s ⟨#[47]⟩)) (fun _ => by kernel_rfl) ?_
 refine pl_call M (want_no rfl) (some 25) rfl 165 #[.string (cuB s ⟨#[47]⟩), .int .i64 10, .int .i64 8] (.tuple #[.int .u16 (rpB s), .bool (nmb 10 255 (cuB s ⟨#[47]⟩)).isSome]) (fun _ => by kernel_rfl) (fun w M => c_number10 (cuB s ⟨#[47]⟩) w M.laid) ?_
 intro u6 M
 refine pl_val (want_no rfl) (some 23) rfl (.tuple #[.int .u16 (rpB s), .bool (nmb 10 255 (cuB s ⟨#[47]⟩)).isSome]) (fun _ => by kernel_rfl) ?_
 refine pl_val (want_no rfl) (some 26) rfl (.int .u16 (rpB s)) (fun _ => by kernel_rfl) ?_
 refine pl_val (want_no rfl) (some 27) rfl (.bool (nmb 10 255 (cuB s ⟨#[47]⟩)).isSome) (fun _ => by kernel_rfl) ?_
 refine pl_val (want_no rfl) (some 9) rfl (.int .u16 (rpB s)) (fun _ => by kernel_rfl) ?_
 refine pl_val (want_no rfl) (some 10) rfl (.bool (nmb 10 255 (cuB s ⟨#[47]⟩)).isSome) (fun _ => by kernel_rfl) ?_
 refine pl_nil ?_
 refine au_then ?_
 refine wp_seq ?_
 refine rg_lit ?_
 refine pl_load M (want_no rfl) (some 28) rfl 49 _ rfl 1 g2 0 (by kernel_rfl) 3 49 (ls [.bool (rpV s), .int .u64 (rpH s), .int .u64 (rpL s)]) rfl 3 (ls [.bool (rpV s), .int .u64 (rpH s), .int .u64 (rpL s)]) (fun j _ => by rw [Nat.zero_add]) (by decide) _ Tryz.underlying49 rfl inz49 ?_
 refine pl_val (want_no rfl) (some 29) rfl (.int .u16 (rpB s)) (fun _ => by kernel_rfl) ?_
 refine pl_val (want_no rfl) (some 30) rfl (.int .u8 (rpB s)) (fun w => Eq.trans (b := .ok (.value (.int .u8 (cv .u8 (rpB s)))) w) (by kernel_rfl) (by have : 0 ≤ rpB s ∧ rpB s ≤ 255 := nmb_le _; rw [cv_u8]; congr 3; omega)) ?_
 refine pl_val (want_no rfl) (some 31) rfl (.agg (av 4 (ls [.bool (rpV s), .int .u64 (rpH s), .int .u64 (rpL s), .int .u8 (rpB s)]))) (fun _ => by kernel_rfl) ?_
 refine pl_new M (want_no rfl) (some 11) rfl (.cells (av 4 (ls [.bool false, .int .u64 0, .int .u64 0, .int .u8 0])) 51) (fun _ => by kernel_rfl) ?_
 intro g3 u7 M
 replace M : Mem ⟨w, []⟩ [⟨g1, .cells (av 4 (ls [.bool false, .int .u64 0, .int .u64 0, .int .u8 0])) 51⟩, ⟨g2, .cells (av 3 (ls [.bool (rpV s), .int .u64 (rpH s), .int .u64 (rpL s)])) 49⟩, ⟨g3, .cells (av 4 (ls [.bool false, .int .u64 0, .int .u64 0, .int .u8 0])) 51⟩] u7 := M
 refine pl_put M (want_no rfl) rfl 51 _ _ rfl 2 g3 0 (by kernel_rfl) 4 51 (ls [.bool false, .int .u64 0, .int .u64 0, .int .u8 0]) rfl 4 (ls [.bool (rpV s), .int .u64 (rpH s), .int .u64 (rpL s), .int .u8 (rpB s)]) (ls [.bool (rpV s), .int .u64 (rpH s), .int .u64 (rpL s), .int .u8 (rpB s)]) (by kernel_rfl) inz51 (by decide) (one_ls _ rfl) (fun j hj => by rw [if_pos (by omega), Nat.sub_zero]) ?_
 intro u8 M
 replace M : Mem ⟨w, []⟩ [⟨g1, .cells (av 4 (ls [.bool false, .int .u64 0, .int .u64 0, .int .u8 0])) 51⟩, ⟨g2, .cells (av 3 (ls [.bool (rpV s), .int .u64 (rpH s), .int .u64 (rpL s)])) 49⟩, ⟨g3, .cells (av 4 (ls [.bool (rpV s), .int .u64 (rpH s), .int .u64 (rpL s), .int .u8 (rpB s)])) 51⟩] u8 := M
 refine pl_nil ?_
 refine au_then ?_
 refine wp_seq ?_
 refine wp_seq ?_
 refine rg_lit ?_
 refine pl_val (want_no rfl) (some 32) rfl (.int .i64 (rdE (cuA s ⟨#[47]⟩))) (fun _ => by kernel_rfl) ?_
 by_cases c0 : (rdE (cuA s ⟨#[47]⟩)) = 0
 ·skip
  refine pl_val (want_no rfl) (some 33) rfl (.bool true) (fun w => Eq.trans (b := .ok (.value (.bool (decide ((rdE (cuA s ⟨#[47]⟩)) = 0)))) w) (by kernel_rfl) (by rw [decide_eq_true (c0)])) ?_
  refine pl_val (want_no rfl) (some 34) rfl (.bool true) (fun _ => by kernel_rfl) ?_
  rcases Bool.eq_false_or_eq_true ((nmb 10 255 (cuB s ⟨#[47]⟩)).isSome) with c1 | c1
  ·skip
   refine pl_val (want_on 2 true rfl 34 rfl (by kernel_rfl)) (some 35) rfl (.bool true) (fun w => Eq.trans (b := .ok (.value (.bool (nmb 10 255 (cuB s ⟨#[47]⟩)).isSome)) w) (by kernel_rfl) (by rw [c1])) ?_
   refine pl_val (want_no rfl) (some 36) rfl (.bool true) (fun _ => by kernel_rfl) ?_
   refine pl_val (want_no rfl) (some 37) rfl (.bool true) (fun _ => by kernel_rfl) ?_
   refine pl_load M (want_on 5 true rfl 37 rfl (by kernel_rfl)) (some 38) rfl 51 _ rfl 2 g3 0 (by kernel_rfl) 4 51 (ls [.bool (rpV s), .int .u64 (rpH s), .int .u64 (rpL s), .int .u8 (rpB s)]) rfl 4 (ls [.bool (rpV s), .int .u64 (rpH s), .int .u64 (rpL s), .int .u8 (rpB s)]) (fun j _ => by rw [Nat.zero_add]) (by decide) _ Tryz.underlying51 rfl inz51 ?_
   refine pl_call M (want_on 5 true rfl 37 rfl (by kernel_rfl)) (some 39) rfl 46 #[.agg (av 4 (ls [.bool (rpV s), .int .u64 (rpH s), .int .u64 (rpL s), .int .u8 (rpB s)]))] (.string (ptx (rpV s) (rpH s) (rpL s) (rpB s))) (fun _ => by kernel_rfl) (fun w M => c_PrefixText (rpV s) (rpH s) (rpL s) (rpB s) (nmb_le _).1 (nmb_le _).2 w M.laid) ?_
   intro u9 M
   refine pl_val (want_on 5 true rfl 37 rfl (by kernel_rfl)) (some 40) rfl (.string s) (fun _ => by kernel_rfl) ?_
   by_cases c2 : (ptx (rpV s) (rpH s) (rpL s) (rpB s)) = s
   ·skip
    refine pl_val (want_on 5 true rfl 37 rfl (by kernel_rfl)) (some 41) rfl (.bool true) (fun w => Eq.trans (b := .ok (.value (.bool ((ptx (rpV s) (rpH s) (rpL s) (rpB s)).toList == s.toList))) w) (by kernel_rfl) (by rw [seq_pos c2])) ?_
    refine pl_val (want_no rfl) (some 42) rfl (.bool true) (fun _ => by kernel_rfl) ?_
    refine pl_nil ?_
    refine au_then ?_
    refine wp_cond_true (by kernel_rfl) ?_
    refine wp_seq ?_
    refine rg_lit ?_
    refine pl_load M (want_no rfl) (some 43) rfl 51 _ rfl 2 g3 0 (by kernel_rfl) 4 51 (ls [.bool (rpV s), .int .u64 (rpH s), .int .u64 (rpL s), .int .u8 (rpB s)]) rfl 4 (ls [.bool (rpV s), .int .u64 (rpH s), .int .u64 (rpL s), .int .u8 (rpB s)]) (fun j _ => by rw [Nat.zero_add]) (by decide) _ Tryz.underlying51 rfl inz51 ?_
    refine pl_put M (want_no rfl) rfl 51 _ _ rfl 0 g1 0 (by kernel_rfl) 4 51 (ls [.bool false, .int .u64 0, .int .u64 0, .int .u8 0]) rfl 4 (ls [.bool (rpV s), .int .u64 (rpH s), .int .u64 (rpL s), .int .u8 (rpB s)]) (ls [.bool (rpV s), .int .u64 (rpH s), .int .u64 (rpL s), .int .u8 (rpB s)]) (by kernel_rfl) inz51 (by decide) (one_ls _ rfl) (fun j hj => by rw [if_pos (by omega), Nat.sub_zero]) ?_
    intro u10 M
    replace M : Mem ⟨w, []⟩ [⟨g1, .cells (av 4 (ls [.bool (rpV s), .int .u64 (rpH s), .int .u64 (rpL s), .int .u8 (rpB s)])) 51⟩, ⟨g2, .cells (av 3 (ls [.bool (rpV s), .int .u64 (rpH s), .int .u64 (rpL s)])) 49⟩, ⟨g3, .cells (av 4 (ls [.bool (rpV s), .int .u64 (rpH s), .int .u64 (rpL s), .int .u8 (rpB s)])) 51⟩] u10 := M
    refine pl_val (want_no rfl) (some 3) rfl (.int .i64 0) (fun _ => by kernel_rfl) ?_
    refine pl_nil ?_
    refine au_then ?_
    refine wp_ret ?_
    refine au_then_ret ?_
    have e0 : zB (rpE s) (rpV s) = rpV s := by rw [(show rpE s = 0 by unfold rpE; rw [if_pos c0, if_pos c1, if_pos c2])]; rfl
    have e1 : (zI (rpE s) (rpH s)) = (rpH s) := by rw [(show rpE s = 0 by unfold rpE; rw [if_pos c0, if_pos c1, if_pos c2])]; rfl
    have e2 : (zI (rpE s) (rpL s)) = (rpL s) := by rw [(show rpE s = 0 by unfold rpE; rw [if_pos c0, if_pos c1, if_pos c2])]; rfl
    have e3 : (zI (rpE s) (rpB s)) = (rpB s) := by rw [(show rpE s = 0 by unfold rpE; rw [if_pos c0, if_pos c1, if_pos c2])]; rfl
    have e4 : (rpE s) = 0 := (show rpE s = 0 by unfold rpE; rw [if_pos c0, if_pos c1, if_pos c2])
    exact bodyPost_ret (v := .tuple #[.agg (av 4 (ls [.bool (rpV s), .int .u64 (rpH s), .int .u64 (rpL s), .int .u8 (rpB s)])), .int .i64 0]) (results_cell_tmp Tryz.results123 _ _ g1 51 (av 4 (ls [.bool (rpV s), .int .u64 (rpH s), .int .u64 (rpL s), .int .u8 (rpB s)])) (0, 0) _ _ (by kernel_rfl) (by kernel_rfl) (M.get 0 rfl) Tryz.underlying51 rfl (by rw [av_size]; exact inz51)) (by kernel_rfl) ⟨by rw [e0, e1, e2, e3, e4], below_grown M.old⟩
   ·skip
    refine pl_val (want_on 5 true rfl 37 rfl (by kernel_rfl)) (some 41) rfl (.bool false) (fun w => Eq.trans (b := .ok (.value (.bool ((ptx (rpV s) (rpH s) (rpL s) (rpB s)).toList == s.toList))) w) (by kernel_rfl) (by rw [seq_neg c2])) ?_
    refine pl_val (want_no rfl) (some 42) rfl (.bool false) (fun _ => by kernel_rfl) ?_
    refine pl_nil ?_
    refine au_then ?_
    refine wp_cond_false (by kernel_rfl) ?_
    refine wp_skip ?_
    refine au_then ?_
    refine wp_seq ?_
    refine rg_lit ?_
    refine pl_val (want_no rfl) (some 44) rfl (.agg (av 4 (ls [.bool false, .int .u64 0, .int .u64 0, .int .u8 0]))) (fun _ => by kernel_rfl) ?_
    refine pl_put M (want_no rfl) rfl 51 _ _ rfl 0 g1 0 (by kernel_rfl) 4 51 (ls [.bool false, .int .u64 0, .int .u64 0, .int .u8 0]) rfl 4 (ls [.bool false, .int .u64 0, .int .u64 0, .int .u8 0]) (ls [.bool false, .int .u64 0, .int .u64 0, .int .u8 0]) (by kernel_rfl) inz51 (by decide) (one_ls _ rfl) (fun j hj => by rw [if_pos (by omega), Nat.sub_zero]) ?_
    intro u10 M
    replace M : Mem ⟨w, []⟩ [⟨g1, .cells (av 4 (ls [.bool false, .int .u64 0, .int .u64 0, .int .u8 0])) 51⟩, ⟨g2, .cells (av 3 (ls [.bool (rpV s), .int .u64 (rpH s), .int .u64 (rpL s)])) 49⟩, ⟨g3, .cells (av 4 (ls [.bool (rpV s), .int .u64 (rpH s), .int .u64 (rpL s), .int .u8 (rpB s)])) 51⟩] u10 := M
    refine pl_val (want_no rfl) (some 3) rfl (.int .i64 8) (fun _ => by kernel_rfl) ?_
    refine pl_nil ?_
    refine au_then ?_
    refine wp_ret ?_
    have e0 : zB (rpE s) (rpV s) = false := by rw [(show rpE s = 8 by unfold rpE; rw [if_pos c0, if_pos c1, if_neg c2])]; rfl
    have e1 : (zI (rpE s) (rpH s)) = 0 := by rw [(show rpE s = 8 by unfold rpE; rw [if_pos c0, if_pos c1, if_neg c2])]; rfl
    have e2 : (zI (rpE s) (rpL s)) = 0 := by rw [(show rpE s = 8 by unfold rpE; rw [if_pos c0, if_pos c1, if_neg c2])]; rfl
    have e3 : (zI (rpE s) (rpB s)) = 0 := by rw [(show rpE s = 8 by unfold rpE; rw [if_pos c0, if_pos c1, if_neg c2])]; rfl
    have e4 : (rpE s) = 8 := (show rpE s = 8 by unfold rpE; rw [if_pos c0, if_pos c1, if_neg c2])
    exact bodyPost_ret (v := .tuple #[.agg (av 4 (ls [.bool false, .int .u64 0, .int .u64 0, .int .u8 0])), .int .i64 8]) (results_cell_tmp Tryz.results123 _ _ g1 51 (av 4 (ls [.bool false, .int .u64 0, .int .u64 0, .int .u8 0])) (0, 0) _ _ (by kernel_rfl) (by kernel_rfl) (M.get 0 rfl) Tryz.underlying51 rfl (by rw [av_size]; exact inz51)) (by kernel_rfl) ⟨by rw [e0, e1, e2, e3, e4], below_grown M.old⟩
  ·skip
   refine pl_val (want_on 2 true rfl 34 rfl (by kernel_rfl)) (some 35) rfl (.bool false) (fun w => Eq.trans (b := .ok (.value (.bool (nmb 10 255 (cuB s ⟨#[47]⟩)).isSome)) w) (by kernel_rfl) (by rw [c1])) ?_
   refine pl_val (want_no rfl) (some 36) rfl (.bool false) (fun _ => by kernel_rfl) ?_
   refine pl_val (want_no rfl) (some 37) rfl (.bool false) (fun _ => by kernel_rfl) ?_
   refine pl_skip (want_off 5 true rfl 37 rfl (by kernel_rfl)) (some 38) rfl ?_
   refine pl_skip (want_off 5 true rfl 37 rfl (by kernel_rfl)) (some 39) rfl ?_
   refine pl_skip (want_off 5 true rfl 37 rfl (by kernel_rfl)) (some 40) rfl ?_
   refine pl_skip (want_off 5 true rfl 37 rfl (by kernel_rfl)) (some 41) rfl ?_
   refine pl_val (want_no rfl) (some 42) rfl (.bool false) (fun _ => by kernel_rfl) ?_
   refine pl_nil ?_
   refine au_then ?_
   refine wp_cond_false (by kernel_rfl) ?_
   refine wp_skip ?_
   refine au_then ?_
   refine wp_seq ?_
   refine rg_lit ?_
   refine pl_val (want_no rfl) (some 44) rfl (.agg (av 4 (ls [.bool false, .int .u64 0, .int .u64 0, .int .u8 0]))) (fun _ => by kernel_rfl) ?_
   refine pl_put M (want_no rfl) rfl 51 _ _ rfl 0 g1 0 (by kernel_rfl) 4 51 (ls [.bool false, .int .u64 0, .int .u64 0, .int .u8 0]) rfl 4 (ls [.bool false, .int .u64 0, .int .u64 0, .int .u8 0]) (ls [.bool false, .int .u64 0, .int .u64 0, .int .u8 0]) (by kernel_rfl) inz51 (by decide) (one_ls _ rfl) (fun j hj => by rw [if_pos (by omega), Nat.sub_zero]) ?_
   intro u9 M
   replace M : Mem ⟨w, []⟩ [⟨g1, .cells (av 4 (ls [.bool false, .int .u64 0, .int .u64 0, .int .u8 0])) 51⟩, ⟨g2, .cells (av 3 (ls [.bool (rpV s), .int .u64 (rpH s), .int .u64 (rpL s)])) 49⟩, ⟨g3, .cells (av 4 (ls [.bool (rpV s), .int .u64 (rpH s), .int .u64 (rpL s), .int .u8 (rpB s)])) 51⟩] u9 := M
   refine pl_val (want_no rfl) (some 3) rfl (.int .i64 8) (fun _ => by kernel_rfl) ?_
   refine pl_nil ?_
   refine au_then ?_
   refine wp_ret ?_
   have e0 : zB (rpE s) (rpV s) = false := by rw [(show rpE s = 8 by unfold rpE; rw [if_pos c0, if_neg (by rw [c1]; decide)])]; rfl
   have e1 : (zI (rpE s) (rpH s)) = 0 := by rw [(show rpE s = 8 by unfold rpE; rw [if_pos c0, if_neg (by rw [c1]; decide)])]; rfl
   have e2 : (zI (rpE s) (rpL s)) = 0 := by rw [(show rpE s = 8 by unfold rpE; rw [if_pos c0, if_neg (by rw [c1]; decide)])]; rfl
   have e3 : (zI (rpE s) (rpB s)) = 0 := by rw [(show rpE s = 8 by unfold rpE; rw [if_pos c0, if_neg (by rw [c1]; decide)])]; rfl
   have e4 : (rpE s) = 8 := (show rpE s = 8 by unfold rpE; rw [if_pos c0, if_neg (by rw [c1]; decide)])
   exact bodyPost_ret (v := .tuple #[.agg (av 4 (ls [.bool false, .int .u64 0, .int .u64 0, .int .u8 0])), .int .i64 8]) (results_cell_tmp Tryz.results123 _ _ g1 51 (av 4 (ls [.bool false, .int .u64 0, .int .u64 0, .int .u8 0])) (0, 0) _ _ (by kernel_rfl) (by kernel_rfl) (M.get 0 rfl) Tryz.underlying51 rfl (by rw [av_size]; exact inz51)) (by kernel_rfl) ⟨by rw [e0, e1, e2, e3, e4], below_grown M.old⟩
 ·skip
  refine pl_val (want_no rfl) (some 33) rfl (.bool false) (fun w => Eq.trans (b := .ok (.value (.bool (decide ((rdE (cuA s ⟨#[47]⟩)) = 0)))) w) (by kernel_rfl) (by rw [decide_eq_false (c0)])) ?_
  refine pl_val (want_no rfl) (some 34) rfl (.bool false) (fun _ => by kernel_rfl) ?_
  refine pl_skip (want_off 2 true rfl 34 rfl (by kernel_rfl)) (some 35) rfl ?_
  refine pl_val (want_no rfl) (some 36) rfl (.bool false) (fun _ => by kernel_rfl) ?_
  refine pl_val (want_no rfl) (some 37) rfl (.bool false) (fun _ => by kernel_rfl) ?_
  refine pl_skip (want_off 5 true rfl 37 rfl (by kernel_rfl)) (some 38) rfl ?_
  refine pl_skip (want_off 5 true rfl 37 rfl (by kernel_rfl)) (some 39) rfl ?_
  refine pl_skip (want_off 5 true rfl 37 rfl (by kernel_rfl)) (some 40) rfl ?_
  refine pl_skip (want_off 5 true rfl 37 rfl (by kernel_rfl)) (some 41) rfl ?_
  refine pl_val (want_no rfl) (some 42) rfl (.bool false) (fun _ => by kernel_rfl) ?_
  refine pl_nil ?_
  refine au_then ?_
  refine wp_cond_false (by kernel_rfl) ?_
  refine wp_skip ?_
  refine au_then ?_
  refine wp_seq ?_
  refine rg_lit ?_
  refine pl_val (want_no rfl) (some 44) rfl (.agg (av 4 (ls [.bool false, .int .u64 0, .int .u64 0, .int .u8 0]))) (fun _ => by kernel_rfl) ?_
  refine pl_put M (want_no rfl) rfl 51 _ _ rfl 0 g1 0 (by kernel_rfl) 4 51 (ls [.bool false, .int .u64 0, .int .u64 0, .int .u8 0]) rfl 4 (ls [.bool false, .int .u64 0, .int .u64 0, .int .u8 0]) (ls [.bool false, .int .u64 0, .int .u64 0, .int .u8 0]) (by kernel_rfl) inz51 (by decide) (one_ls _ rfl) (fun j hj => by rw [if_pos (by omega), Nat.sub_zero]) ?_
  intro u9 M
  replace M : Mem ⟨w, []⟩ [⟨g1, .cells (av 4 (ls [.bool false, .int .u64 0, .int .u64 0, .int .u8 0])) 51⟩, ⟨g2, .cells (av 3 (ls [.bool (rpV s), .int .u64 (rpH s), .int .u64 (rpL s)])) 49⟩, ⟨g3, .cells (av 4 (ls [.bool (rpV s), .int .u64 (rpH s), .int .u64 (rpL s), .int .u8 (rpB s)])) 51⟩] u9 := M
  refine pl_val (want_no rfl) (some 3) rfl (.int .i64 8) (fun _ => by kernel_rfl) ?_
  refine pl_nil ?_
  refine au_then ?_
  refine wp_ret ?_
  have e0 : zB (rpE s) (rpV s) = false := by rw [(show rpE s = 8 by unfold rpE; rw [if_neg c0])]; rfl
  have e1 : (zI (rpE s) (rpH s)) = 0 := by rw [(show rpE s = 8 by unfold rpE; rw [if_neg c0])]; rfl
  have e2 : (zI (rpE s) (rpL s)) = 0 := by rw [(show rpE s = 8 by unfold rpE; rw [if_neg c0])]; rfl
  have e3 : (zI (rpE s) (rpB s)) = 0 := by rw [(show rpE s = 8 by unfold rpE; rw [if_neg c0])]; rfl
  have e4 : (rpE s) = 8 := (show rpE s = 8 by unfold rpE; rw [if_neg c0])
  exact bodyPost_ret (v := .tuple #[.agg (av 4 (ls [.bool false, .int .u64 0, .int .u64 0, .int .u8 0])), .int .i64 8]) (results_cell_tmp Tryz.results123 _ _ g1 51 (av 4 (ls [.bool false, .int .u64 0, .int .u64 0, .int .u8 0])) (0, 0) _ _ (by kernel_rfl) (by kernel_rfl) (M.get 0 rfl) Tryz.underlying51 rfl (by rw [av_size]; exact inz51)) (by kernel_rfl) ⟨by rw [e0, e1, e2, e3, e4], below_grown M.old⟩
end Go.Proofs.YtbdgncndhnnjoaaGreatDoor.Ip

namespace Go.Proofs.YtbdgncndhnnjoaaGreatDoor.Ip
open Go.RowKit
section
open Go.Lib
theorem occ1 (s : List UInt8) (c : UInt8) (j : Nat) : occAt s [c] j = true ↔ s[j]? = some c := by
 unfold occAt
 rw [show s[j]? = (s.drop j)[0]? by rw [List.getElem?_drop]; rfl]
 cases s.drop j with
 | nil => simp [List.isPrefixOf]
 | cons a l => simp [List.isPrefixOf]; exact eq_comm
theorem index1 (x t : List UInt8) (c : UInt8) (h : c ∉ x) : index (x ++ c :: t) [c] = x.length := by
 refine index_first (by simp) ((occ1 _ _ _).2 (by simp)) fun j hj => ?_
 refine Bool.eq_false_iff.2 fun e => ?_
 have := (occ1 _ _ _).1 e
 rw [List.getElem?_append_left hj] at this
 exact h (List.mem_of_getElem? this)
theorem index1_no (x : List UInt8) (c : UInt8) (h : c ∉ x) : index x [c] = -1 := by
 refine index_none fun j _ => Bool.eq_false_iff.2 fun e => ?_
 exact h (List.mem_of_getElem? ((occ1 _ _ _).1 e))
theorem join_two (x y : List UInt8) (r : List (List UInt8)) (c : UInt8) : join (x :: y :: r) [c] = x ++ c :: join (y :: r) [c] := by
 rw [join_cons, join_cons]
 simp [joinTail]
theorem splitK_join (c : UInt8) : ∀ (r : List (List UInt8)) (x : List UInt8), (∀ y ∈ x :: r, c ∉ y) → splitK [c] 0 r.length (join (x :: r) [c]) = x :: r
 | [], x, _ => by rw [join_one]; rfl
 | y :: r, x, h => by
  have hx : c ∉ x := h x (by simp)
  have e := index1 x (join (y :: r) [c]) c hx
  rw [join_two, List.length_cons, splitK, e, if_neg (by simp)]
  have e2 : (x ++ c :: join (y :: r) [c]).drop (((x.length : Nat) : Int).toNat + [c].length) = join (y :: r) [c] := by
   rw [Int.toNat_natCast, List.length_singleton, ← List.drop_drop, List.drop_left]
   rfl
  rw [e2, splitK_join c r y fun z hz => h z (List.mem_cons_of_mem _ hz)]
  simp
theorem count_join (c : UInt8) : ∀ (r : List (List UInt8)) (x : List UInt8) (fuel : Nat), (∀ y ∈ x :: r, c ∉ y) → r.length < fuel → countFrom [c] fuel (join (x :: r) [c]) = r.length
 | [], x, 0, _, hf => by simp at hf
 | [], x, fuel + 1, h, _ => by
  rw [join_one, countFrom, index1_no x c (h x (by simp))]
  rfl
 | y :: r, x, 0, _, hf => by simp at hf
 | y :: r, x, fuel + 1, h, hf => by
  have hx : c ∉ x := h x (by simp)
  have e := index1 x (join (y :: r) [c]) c hx
  rw [join_two, countFrom, e, if_neg (by simp)]
  have e2 : (x ++ c :: join (y :: r) [c]).drop (((x.length : Nat) : Int).toNat + [c].length) = join (y :: r) [c] := by
   rw [Int.toNat_natCast, List.length_singleton, ← List.drop_drop, List.drop_left]
   rfl
  rw [e2, count_join c r y fuel (fun z hz => h z (List.mem_cons_of_mem _ hz)) (by simp at hf; omega)]
  simp
  omega
theorem join_len (c : UInt8) : ∀ (r : List (List UInt8)) (x : List UInt8), r.length ≤ (join (x :: r) [c]).length
 | [], _ => by simp
 | y :: r, x => by
  have := join_len c r y
  rw [join_two]
  simp
  omega
theorem split_join (c : UInt8) (r : List (List UInt8)) (x : List UInt8) (h : ∀ y ∈ x :: r, c ∉ y) : splitK [c] 0 (count (join (x :: r) [c]) [c]) (join (x :: r) [c]) = x :: r := by
 have := join_len c r x
 rw [count, count_join c r x _ h (by omega)]
 exact splitK_join c r x h
end
end Go.Proofs.YtbdgncndhnnjoaaGreatDoor.Ip

namespace Go.Proofs.YtbdgncndhnnjoaaGreatDoor.Ip
open Go.Shelf Go.RowKit
set_option maxRecDepth 100000
def reqRen : Go.Shelf.Ren := ⟨fun | 125 => 109 | 128 => 151 | 129 => 152 | 166 => 43 | 167 => 45 | 169 => 48 | 190 => 76 | 194 => 77 | 240 => 79 | 258 => 108 | 276 => 113 | 302 => 142 | 303 => 143 | 304 => 144 | 305 => 145 | 306 => 146 | 307 => 147 | 308 => 148 | 309 => 149 | 310 => 150 | 329 => 182 | 330 => 183 | 333 => 181 | 334 => 184 | 335 => 185 | 336 => 186 | 344 => 204 | n => n, fun | 0 => 0 | 3 => 3 | 4 => 4 | 5 => 5 | 9 => 9 | 20 => 20 | 31 => 44 | 37 => 41 | 46 => 148 | 51 => 183 | 53 => 47 | 70 => 85 | 72 => 87 | 75 => 89 | 80 => 67 | 127 => 131 | 131 => 180 | 164 => 150 | 182 => 175 | 183 => 176 | 218 => 222 | 222 => 226 | 228 => 240 | 229 => 190 | n => n, fun | 1 => 2 | 3 => 4 | 4 => 5 | 15 => 8 | 16 => 9 | 17 => 3 | 18 => 6 | 19 => 7 | n => n⟩
theorem be125 : Tryz.prog.funcs[reqRen.f 125]? = some (Body.n125 reqRen) := Tryz.func109.trans (congrArg some (by kernel_rfl))
theorem be128 : Tryz.prog.funcs[reqRen.f 128]? = some (Body.n128 reqRen) := Tryz.func151.trans (congrArg some (by kernel_rfl))
theorem be129 : Tryz.prog.funcs[reqRen.f 129]? = some (Body.n129 reqRen) := Tryz.func152.trans (congrArg some (by kernel_rfl))
theorem be166 : Tryz.prog.funcs[reqRen.f 166]? = some (Body.n166 reqRen) := Tryz.func43.trans (congrArg some (by kernel_rfl))
theorem be190 : Tryz.prog.funcs[reqRen.f 190]? = some (Body.n190 reqRen) := Tryz.func76.trans (congrArg some (by kernel_rfl))
theorem be194 : Tryz.prog.funcs[reqRen.f 194]? = some (Body.n194 reqRen) := Tryz.func77.trans (congrArg some (by kernel_rfl))
theorem be240 : Tryz.prog.funcs[reqRen.f 240]? = some (Body.n240 reqRen) := Tryz.func79.trans (congrArg some (by kernel_rfl))
theorem be258 : Tryz.prog.funcs[reqRen.f 258]? = some (Body.n258 reqRen) := Tryz.func108.trans (congrArg some (by kernel_rfl))
theorem be276 : Tryz.prog.funcs[reqRen.f 276]? = some (Body.n276 reqRen) := Tryz.func113.trans (congrArg some (by kernel_rfl))
theorem be302 : Tryz.prog.funcs[reqRen.f 302]? = some (Body.n302 reqRen) := Tryz.func142.trans (congrArg some (by kernel_rfl))
theorem be303 : Tryz.prog.funcs[reqRen.f 303]? = some (Body.n303 reqRen) := Tryz.func143.trans (congrArg some (by kernel_rfl))
theorem be304 : Tryz.prog.funcs[reqRen.f 304]? = some (Body.n304 reqRen) := Tryz.func144.trans (congrArg some (by kernel_rfl))
theorem be305 : Tryz.prog.funcs[reqRen.f 305]? = some (Body.n305 reqRen) := Tryz.func145.trans (congrArg some (by kernel_rfl))
theorem be306 : Tryz.prog.funcs[reqRen.f 306]? = some (Body.n306 reqRen) := Tryz.func146.trans (congrArg some (by kernel_rfl))
theorem be307 : Tryz.prog.funcs[reqRen.f 307]? = some (Body.n307 reqRen) := Tryz.func147.trans (congrArg some (by kernel_rfl))
theorem be308 : Tryz.prog.funcs[reqRen.f 308]? = some (Body.n308 reqRen) := Tryz.func148.trans (congrArg some (by kernel_rfl))
theorem be309 : Tryz.prog.funcs[reqRen.f 309]? = some (Body.n309 reqRen) := Tryz.func149.trans (congrArg some (by kernel_rfl))
theorem be310 : Tryz.prog.funcs[reqRen.f 310]? = some (Body.n310 reqRen) := Tryz.func150.trans (congrArg some (by kernel_rfl))
theorem be329 : Tryz.prog.funcs[reqRen.f 329]? = some (Body.n329 reqRen) := Tryz.func182.trans (congrArg some (by kernel_rfl))
theorem be330 : Tryz.prog.funcs[reqRen.f 330]? = some (Body.n330 reqRen) := Tryz.func183.trans (congrArg some (by kernel_rfl))
theorem be333 : Tryz.prog.funcs[reqRen.f 333]? = some (Body.n333 reqRen) := Tryz.func181.trans (congrArg some (by kernel_rfl))
theorem be334 : Tryz.prog.funcs[reqRen.f 334]? = some (Body.n334 reqRen) := Tryz.func184.trans (congrArg some (by kernel_rfl))
theorem be335 : Tryz.prog.funcs[reqRen.f 335]? = some (Body.n335 reqRen) := Tryz.func185.trans (congrArg some (by kernel_rfl))
theorem be336 : Tryz.prog.funcs[reqRen.f 336]? = some (Body.n336 reqRen) := Tryz.func186.trans (congrArg some (by kernel_rfl))
theorem be344 : Tryz.prog.funcs[reqRen.f 344]? = some (Body.n344 reqRen) := Tryz.func204.trans (congrArg some (by kernel_rfl))
theorem laye190 : Go.Proofs.Lays.n190 Tryz.prog reqRen := {
 mixed := by kernel_rfl
 f125 := be125
 f128 := be128
 f129 := be129
 f190 := be190
 f258 := be258
 f302 := be302
 f303 := be303
 f304 := be304
 f305 := be305
 f306 := be306
 f307 := be307
 f308 := be308
 f309 := be309
 f310 := be310
 f329 := be329
 f330 := be330
 f333 := be333
 f334 := be334
 f335 := be335
 f336 := be336
 f344 := be344
 t0 := Tryz.underlying0
 a0 := Tryz.isAgg0
 z0 := Tryz.sizeOf0
 v0 := Tryz.zeroValue0
 t3 := Tryz.underlying3
 a3 := Tryz.isAgg3
 z3 := Tryz.sizeOf3
 v3 := Tryz.zeroValue3
 t4 := Tryz.underlying4
 a4 := Tryz.isAgg4
 z4 := Tryz.sizeOf4
 v4 := Tryz.zeroValue4
 t5 := Tryz.underlying5
 a5 := Tryz.isAgg5
 z5 := Tryz.sizeOf5
 v5 := Tryz.zeroValue5
 t9 := Tryz.underlying9
 a9 := Tryz.isAgg9
 z9 := Tryz.sizeOf9
 v9 := Tryz.zeroValue9
 t31 := Tryz.underlying44
 a31 := Tryz.isAgg44
 z31 := Tryz.sizeOf44
 v31 := Tryz.zeroValue44
 t46 := Tryz.underlying148
 a46 := Tryz.isAgg148
 z46 := Tryz.sizeOf148
 v46 := Tryz.zeroValue148
 t51 := Tryz.underlying183
 a51 := Tryz.isAgg183
 z51 := Tryz.sizeOf183
 v51 := Tryz.zeroValue183
 t53 := Tryz.underlying47
 a53 := Tryz.isAgg47
 z53 := Tryz.sizeOf47
 v53 := Tryz.zeroValue47
 t131 := Tryz.underlying180
 a131 := Tryz.isAgg180
 z131 := Tryz.sizeOf180
 v131 := Tryz.zeroValue180
 t182 := Tryz.underlying175
 a182 := Tryz.isAgg175
 z182 := Tryz.sizeOf175
 v182 := Tryz.zeroValue175
 t183 := Tryz.underlying176
 a183 := Tryz.isAgg176
 z183 := Tryz.sizeOf176
 v183 := Tryz.zeroValue176
 t218 := Tryz.underlying222
 a218 := Tryz.isAgg222
 z218 := Tryz.sizeOf222
 v218 := Tryz.zeroValue222
 t222 := Tryz.underlying226
 a222 := Tryz.isAgg226
 z222 := Tryz.sizeOf226
 v222 := Tryz.zeroValue226
 t228 := Tryz.underlying240
 a228 := Tryz.isAgg240
 z228 := Tryz.sizeOf240
 v228 := Tryz.zeroValue240
 t229 := Tryz.underlying190
 a229 := Tryz.isAgg190
 z229 := Tryz.sizeOf190
 v229 := Tryz.zeroValue190 }
theorem laye194 : Go.Proofs.Lays.n194 Tryz.prog reqRen := {
 mixed := by kernel_rfl
 f194 := be194
 t0 := Tryz.underlying0
 a0 := Tryz.isAgg0
 z0 := Tryz.sizeOf0
 v0 := Tryz.zeroValue0
 t3 := Tryz.underlying3
 a3 := Tryz.isAgg3
 z3 := Tryz.sizeOf3
 v3 := Tryz.zeroValue3
 t4 := Tryz.underlying4
 a4 := Tryz.isAgg4
 z4 := Tryz.sizeOf4
 v4 := Tryz.zeroValue4
 t9 := Tryz.underlying9
 a9 := Tryz.isAgg9
 z9 := Tryz.sizeOf9
 v9 := Tryz.zeroValue9
 t31 := Tryz.underlying44
 a31 := Tryz.isAgg44
 z31 := Tryz.sizeOf44
 v31 := Tryz.zeroValue44 }
theorem laye166 : Go.Proofs.Lays.n166 Tryz.prog reqRen := {
 mixed := by kernel_rfl
 f166 := be166
 f240 := be240
 f276 := be276
 t0 := Tryz.underlying0
 a0 := Tryz.isAgg0
 z0 := Tryz.sizeOf0
 v0 := Tryz.zeroValue0
 t3 := Tryz.underlying3
 a3 := Tryz.isAgg3
 z3 := Tryz.sizeOf3
 v3 := Tryz.zeroValue3
 t4 := Tryz.underlying4
 a4 := Tryz.isAgg4
 z4 := Tryz.sizeOf4
 v4 := Tryz.zeroValue4
 t9 := Tryz.underlying9
 a9 := Tryz.isAgg9
 z9 := Tryz.sizeOf9
 v9 := Tryz.zeroValue9
 t20 := Tryz.underlying20
 a20 := Tryz.isAgg20
 z20 := Tryz.sizeOf20
 v20 := Tryz.zeroValue20
 t37 := Tryz.underlying41
 a37 := Tryz.isAgg41
 z37 := Tryz.sizeOf41
 v37 := Tryz.zeroValue41
 t70 := Tryz.underlying85
 a70 := Tryz.isAgg85
 z70 := Tryz.sizeOf85
 v70 := Tryz.zeroValue85
 t72 := Tryz.underlying87
 a72 := Tryz.isAgg87
 z72 := Tryz.sizeOf87
 v72 := Tryz.zeroValue87
 t75 := Tryz.underlying89
 a75 := Tryz.isAgg89
 z75 := Tryz.sizeOf89
 v75 := Tryz.zeroValue89
 t164 := Tryz.underlying150
 a164 := Tryz.isAgg150
 z164 := Tryz.sizeOf150
 v164 := Tryz.zeroValue150 }
theorem reqExtra : Builder.Extra Tryz.prog reqRen := {
 sizeBuilder := by kernel_rfl
 liesBuilder := by kernel_rfl
 t5 := Tryz.underlying5
 a5 := Tryz.isAgg5
 z5 := Tryz.sizeOf5
 v5 := Tryz.zeroValue5
 infoByte := by kernel_rfl
 cellsByte := by kernel_rfl
 sizeByte := by kernel_rfl
 neB5 := by decide }
end Go.Proofs.YtbdgncndhnnjoaaGreatDoor.Ip

namespace Go.Proofs.YtbdgncndhnnjoaaGreatDoor
open Go.RowKit
set_option linter.unusedVariables false
set_option linter.unusedSimpArgs false
structure Blk where
 g : Nat
 Z : Obj
structure Grw (w w' : World) (r : List Nat) : Prop where
 os : w'.os = w.os
 tape : w'.tape = w.tape
 output : w'.output = w.output
 size : w.heap.size ≤ w'.heap.size
 block : ∀ k, k < w.heap.size → k ∉ r → w'.heap[k]? = w.heap[k]?
theorem grw_refl (w : World) (r : List Nat) : Grw w w r := ⟨rfl, rfl, rfl, Nat.le_refl _, fun _ _ _ => rfl⟩
theorem grw_below {w w' : World} (h : Below w.heap.size w w') (r : List Nat) : Grw w w' r := ⟨h.os, h.tape, h.output, h.size, fun k hk _ => h.block k hk⟩
theorem Grw.below {w w' : World} (h : Grw w w' []) : Below w.heap.size w w' := ⟨h.os, h.tape, h.output, h.size, fun k hk => h.block k hk (by simp)⟩
theorem Grw.trans {a b c : World} {r s : List Nat} (h : Grw a b r) (k : Grw b c s) (hs : ∀ x ∈ s, a.heap.size ≤ x ∨ x ∈ r) : Grw a c r :=
 ⟨k.os.trans h.os, k.tape.trans h.tape, k.output.trans h.output, Nat.le_trans h.size k.size, fun j hj hr => (k.block j (Nat.lt_of_lt_of_le hj h.size) fun e => (hs j e).elim (fun h => by omega) hr).trans (h.block j hj hr)⟩
theorem Grw.sub {w w' : World} {r s : List Nat} (h : Grw w w' r) (hs : ∀ x, x ∈ r → x ∈ s) : Grw w w' s := ⟨h.os, h.tape, h.output, h.size, fun k hk hr => h.block k hk fun e => hr (hs k e)⟩
structure Seat (P : Program) where
 lo : Nat
 laid : World → Prop
 lt : ∀ w, laid w → lo ≤ w.heap.size
 mono : ∀ w w', laid w → (∀ k, k < lo → w'.heap[k]? = w.heap[k]?) → lo ≤ w'.heap.size → laid w'
 mix : P.follows .mixedOrders = true
structure There {P : Program} (S : Seat P) (w : World) (T : List Blk) : Prop where
 at_ : ∀ b ∈ T, w.heap[b.g]? = some b.Z
 nodup : (T.map Blk.g).Nodup
 ne : ∀ b ∈ T, S.lo ≤ b.g
theorem There.lt {P : Program} {S : Seat P} {w : World} {T : List Blk} (h : There S w T) {b : Blk} (hb : b ∈ T) : b.g < w.heap.size := (Array.getElem?_eq_some_iff.1 (h.at_ b hb)).1
theorem There.perm {P : Program} {S : Seat P} {w : World} {T T' : List Blk} (h : There S w T) (hs : T.Perm T') : There S w T' := ⟨fun b hb => h.at_ b (hs.mem_iff.2 hb), (hs.map _).nodup_iff.1 h.nodup, fun b hb => h.ne b (hs.mem_iff.2 hb)⟩
structure OkT (w w' : World) (T T' : List Blk) : Prop where
 grw : Grw w w' (T.map Blk.g)
 at_ : ∀ b ∈ T', w'.heap[b.g]? = some b.Z
 nodup : (T'.map Blk.g).Nodup
 ge : ∀ b ∈ T', b.g ∈ T.map Blk.g ∨ w.heap.size ≤ b.g
theorem OkT.perm {w w' : World} {T T' U U' : List Blk} (h : OkT w w' T T') (p : T.Perm U) (q : T'.Perm U') : OkT w w' U U' :=
 ⟨h.grw.sub fun _ hx => (p.map _).mem_iff.1 hx, fun b hb => h.at_ b (q.mem_iff.2 hb), (q.map _).nodup_iff.1 h.nodup, fun b hb => (h.ge b (q.mem_iff.2 hb)).imp_left fun hx => (p.map _).mem_iff.1 hx⟩
theorem OkT.refl {P : Program} {S : Seat P} {w : World} {T : List Blk} (h : There S w T) : OkT w w T T := ⟨grw_refl _ _, h.at_, h.nodup, fun _ hb => .inl (List.mem_map_of_mem hb)⟩
theorem OkT.below {P : Program} {S : Seat P} {w w' : World} {T : List Blk} (h : There S w T) (hb : Below w.heap.size w w') : OkT w w' T T :=
 ⟨grw_below hb _, fun b hm => by rw [hb.block _ (h.lt hm)]; exact h.at_ b hm, h.nodup, fun b hm => .inl (List.mem_map_of_mem hm)⟩
structure Ctx where
 w : World
 r : List Nat
structure Mem {P : Program} (S : Seat P) (c : Ctx) (L : List Blk) (W : World) : Prop where
 old : Grw c.w W c.r
 at_ : ∀ b ∈ L, W.heap[b.g]? = some b.Z
 ge : ∀ b ∈ L, c.w.heap.size ≤ b.g ∨ b.g ∈ c.r
 nodup : (L.map Blk.g).Nodup
 lay : S.laid c.w
 ne : ∀ k ∈ c.r, S.lo ≤ k
section
variable {P : Program} {S : Seat P} {c : Ctx} {L L' T T' : List Blk} {W W' : World}
theorem Mem.start {w : World} (hL : S.laid w) (h : There S w T) : Mem S ⟨w, T.map Blk.g⟩ T w :=
 ⟨grw_refl _ _, h.at_, fun _ hb => .inr (List.mem_map_of_mem hb), h.nodup, hL, fun k hk => by obtain ⟨b, hb, rfl⟩ := List.mem_map.1 hk; exact h.ne b hb⟩
theorem Mem.laid (M : Mem S c L W) : S.laid W := S.mono _ _ M.lay (fun k hk => M.old.block k (Nat.lt_of_lt_of_le hk (S.lt _ M.lay)) fun e => absurd (M.ne k e) (by omega)) (Nat.le_trans (S.lt _ M.lay) M.old.size)
theorem Mem.lo (M : Mem S c L W) {b : Blk} (hb : b ∈ L) : S.lo ≤ b.g := (M.ge b hb).elim (fun h => Nat.le_trans (S.lt _ M.lay) h) fun h => M.ne _ h
theorem Mem.there (M : Mem S c L W) : There S W L := ⟨M.at_, M.nodup, fun _ hb => M.lo hb⟩
theorem Mem.perm (M : Mem S c L W) (h : L.Perm L') : Mem S c L' W := ⟨M.old, fun b hb => M.at_ b (h.mem_iff.2 hb), fun b hb => M.ge b (h.mem_iff.2 hb), (h.map _).nodup_iff.1 M.nodup, M.lay, M.ne⟩
theorem Mem.drop (M : Mem S c L W) (h : L'.Sublist L) : Mem S c L' W := ⟨M.old, fun b hb => M.at_ b (h.subset hb), fun b hb => M.ge b (h.subset hb), M.nodup.sublist (h.map _), M.lay, M.ne⟩
theorem Mem.step (M : Mem S c (T ++ L) W) (h : OkT W W' T T') : Mem S c (T' ++ L) W' where
 old := M.old.trans h.grw fun x hx => by
  obtain ⟨b, hb, rfl⟩ := List.mem_map.1 hx
  exact M.ge b (List.mem_append_left _ hb)
 at_ := fun b hb => by
  rcases List.mem_append.1 hb with hb | hb
  ·exact h.at_ b hb
  ·have hm : b ∈ T ++ L := List.mem_append_right _ hb
   have hlt : b.g < W.heap.size := (Array.getElem?_eq_some_iff.1 (M.at_ b hm)).1
   rw [h.grw.block _ hlt fun e => ?_]
   ·exact M.at_ b hm
   ·have hn := M.nodup
    rw [List.map_append, List.nodup_append] at hn
    exact hn.2.2 _ e _ (List.mem_map_of_mem hb) rfl
 ge := fun b hb => by
  rcases List.mem_append.1 hb with hb | hb
  ·rcases h.ge b hb with h1 | h1
   ·obtain ⟨d, hd, e⟩ := List.mem_map.1 h1
    rw [← e]
    exact M.ge d (List.mem_append_left _ hd)
   ·exact .inl (Nat.le_trans M.old.size h1)
  ·exact M.ge b (List.mem_append_right _ hb)
 nodup := by
  have hn := M.nodup
  rw [List.map_append, List.nodup_append] at hn
  rw [List.map_append, List.nodup_append]
  refine ⟨h.nodup, hn.2.1, fun x hx y hy e => ?_⟩
  obtain ⟨b, hb, rfl⟩ := List.mem_map.1 hx
  obtain ⟨d, hd, rfl⟩ := List.mem_map.1 hy
  rcases h.ge b hb with h1 | h1
  ·exact hn.2.2 _ h1 _ (List.mem_map_of_mem hd) e
  ·have := (Array.getElem?_eq_some_iff.1 (M.at_ d (List.mem_append_right _ hd))).1
   omega
 lay := M.lay
 ne := M.ne
theorem Mem.okT {w : World} (M : Mem S ⟨w, T.map Blk.g⟩ T' W) : OkT w W T T' := ⟨M.old, M.at_, M.nodup, fun b hb => (M.ge b hb).symm⟩
theorem Mem.drew (M : Mem S c L W) : Mem S c L W.drew := by
 have := M.step (T := []) (T' := []) (W' := W.drew) ⟨⟨rfl, rfl, rfl, Nat.le_refl _, fun _ _ _ => rfl⟩, by simp, by simp, by simp⟩
 exact this
end
def av (n : Nat) (F : Nat → Value) : Array Value := ((List.range n).map F).toArray
theorem av_get (n : Nat) (F : Nat → Value) (i : Nat) (h : i < n) : (av n F)[i]? = some (F i) := by simp [av, h]
structure Ent where
 g : Nat
 v : Value
 T : List Blk
 one : v.oneCell' = true
structure SV where
 k : Nat
 x : Value
 b : Nat
 o : Nat
 n : Nat
 h : Nat
 l : List SV
 m : List SV
 fn : Fn
def vV (x : Value) : SV := ⟨0, x, 0, 0, 0, 0, [], [], .func 0⟩
def vP (b o : Nat) : SV := ⟨1, undef, b, o, 0, 0, [], [], .func 0⟩
def vS (b o n h : Nat) : SV := ⟨2, undef, b, o, n, h, [], [], .func 0⟩
def vW (b : Nat) : SV := ⟨3, undef, b, 0, 0, 0, [], [], .func 0⟩
def vG (l : List SV) : SV := ⟨5, undef, 0, 0, 0, 0, l, [], .func 0⟩
def vT (l : List SV) : SV := ⟨6, undef, 0, 0, 0, 0, l, [], .func 0⟩
def vF (fn : Fn) (l m : List SV) : SV := ⟨7, undef, 0, 0, 0, 0, l, m, fn⟩
def vI (t : TypeId) (x : SV) : SV := ⟨8, undef, t, 0, 0, 0, [x], [], .func 0⟩
def SV.denA (E : Nat → Ent) (s : SV) : Value := match s.k with
 | 0 => s.x
 | 1 => .pointer (some ⟨(E s.b).g, s.o, none⟩)
 | 2 => .slice (some ⟨(E s.b).g, s.o, none⟩) s.n s.h
 | 3 => (E s.b).v
 | 4 => .map (some (E s.b).g)
 | _ => undef
def SV.denB (E : Nat → Ent) (s : SV) : Value := match s.k with
 | 5 => .agg (s.l.map (SV.denA E)).toArray
 | _ => s.denA E
def SV.denC (E : Nat → Ent) (s : SV) : Value := match s.k with
 | 7 => .func s.fn (s.l.map (SV.denA E)).toArray (s.m.map (SV.denA E)).toArray
 | 8 => match s.l with
  | y :: _ => .iface s.b (y.denB E)
  | [] => undef
 | _ => s.denA E
def SV.denU (E : Nat → Ent) (s : SV) : Value := match s.k with
 | 5 => .agg (s.l.map (SV.denC E)).toArray
 | _ => s.denC E
def SV.den (E : Nat → Ent) (s : SV) : Value := match s.k with
 | 6 => .tuple (s.l.map (SV.denU E)).toArray
 | _ => s.denU E
def SV.isA (s : SV) : Bool := Nat.ble s.k 4
def SV.isB (s : SV) : Bool := match s.k with
 | 5 => s.l.all SV.isA
 | _ => s.isA
def SV.isC (s : SV) : Bool := match s.k with
 | 5 | 6 => false
 | _ => true
def SV.isU (s : SV) : Bool := match s.k with
 | 6 => false
 | _ => true
structure It where
 k : Nat
 l : List SV
 t : TypeId
 n : Nat
 F : Nat → Value
 Z : Obj
 D : Value → List Blk → Prop
 T : List Blk
def tC (l : List SV) (t : TypeId) : It := ⟨0, l, t, 0, fun _ => undef, .cells #[] 0 (0, 0), fun _ _ => True, []⟩
def tD (D : Value → List Blk → Prop) : It := ⟨3, [], 0, 0, fun _ => undef, .cells #[] 0 (0, 0), D, []⟩
def tX (T : List Blk) : It := ⟨4, [], 0, 0, fun _ => undef, .cells #[] 0 (0, 0), fun _ _ => True, T⟩
def It.den (E : Nat → Ent) (i : Nat) (s : It) : List Blk := match s.k with
 | 0 => [⟨(E i).g, .cells (s.l.map (SV.denC E)).toArray s.t (0, 0)⟩]
 | 1 => [⟨(E i).g, .cells (av s.n s.F) s.t (0, 0)⟩]
 | 2 => [⟨(E i).g, s.Z⟩]
 | 3 => (E i).T
 | _ => s.T
def It.ok (E : Nat → Ent) (i : Nat) (s : It) : Prop := match s.k with
 | 3 => s.D (E i).v (E i).T
 | _ => True
def gap : It := tX []
def denP (E : Nat → Ent) : List (Nat × It) → List Blk
 | [] => []
 | (i, x) :: l => x.den E i ++ denP E l
def okP (E : Nat → Ent) (l : List (Nat × It)) : Prop := ∀ p ∈ l, p.2.ok E p.1
def dens (E : Nat → Ent) : Nat → List It → List Blk
 | _, [] => []
 | k, x :: l => x.den E k ++ dens E (k + 1) l
def oks (E : Nat → Ent) (m : List It) : Prop := ∀ (i : Nat) (x : It), m[i]? = some x → x.ok E i
theorem gap_den (E : Nat → Ent) (i : Nat) : gap.den E i = [] := rfl
theorem denP_app (E : Nat → Ent) : ∀ l m : List (Nat × It), denP E (l ++ m) = denP E l ++ denP E m
 | [], _ => rfl
 | (i, x) :: l, m => by simp only [List.cons_append, denP, denP_app E l m, List.append_assoc]
theorem dens_set (E : Nat → Ent) : ∀ (m : List It) (k i : Nat) (x y : It), m[i]? = some x → (dens E k (m.set i y)).Perm (y.den E (k + i) ++ dens E k (m.set i gap))
 | [], _, _, _, _, h => by simp at h
 | z :: m, k, 0, x, y, _ => by simp [dens, gap_den]
 | z :: m, k, i + 1, x, y, h => by
  have ih := dens_set E m (k + 1) i x y (by simpa using h)
  simp only [List.set_cons_succ, dens]
  rw [show k + (i + 1) = k + 1 + i by omega]
  exact (List.Perm.append_left _ ih).trans (by rw [← List.append_assoc, ← List.append_assoc]; exact List.perm_append_comm.append_right _)
theorem set_self {m : List It} {i : Nat} {x : It} (h : m[i]? = some x) : m.set i x = m := by
 obtain ⟨hi, e⟩ := List.getElem?_eq_some_iff.1 h
 subst e
 exact List.set_getElem_self hi
theorem dens_get (E : Nat → Ent) (m : List It) (k i : Nat) (x : It) (h : m[i]? = some x) : (dens E k m).Perm (x.den E (k + i) ++ dens E k (m.set i gap)) := by
 have := dens_set E m k i x x h
 rwa [set_self h] at this
theorem dens_app (E : Nat → Ent) : ∀ (m n : List It) (k : Nat), dens E k (m ++ n) = dens E k m ++ dens E (k + m.length) n
 | [], n, k => by simp [dens]
 | x :: m, n, k => by simp only [List.cons_append, dens, dens_app E m n (k + 1), List.append_assoc, List.length_cons]; rw [show k + (m.length + 1) = k + 1 + m.length by omega]
def SV.alA (p : Nat → Bool) (s : SV) : Bool := match s.k with
 | 1 | 2 | 3 | 4 => p s.b
 | _ => true
def SV.alB (p : Nat → Bool) (s : SV) : Bool := match s.k with
 | 5 => s.l.all (SV.alA p)
 | _ => s.alA p
def SV.alC (p : Nat → Bool) (s : SV) : Bool := match s.k with
 | 7 => s.l.all (SV.alA p) && s.m.all (SV.alA p)
 | 8 => match s.l with
  | y :: _ => y.alB p
  | [] => true
 | _ => s.alA p
def SV.alU (p : Nat → Bool) (s : SV) : Bool := match s.k with
 | 5 => s.l.all (SV.alC p)
 | _ => s.alC p
def SV.al (p : Nat → Bool) (s : SV) : Bool := match s.k with
 | 6 => s.l.all (SV.alU p)
 | _ => s.alU p
def It.al (p : Nat → Bool) (s : It) : Bool := match s.k with
 | 0 => s.l.all (SV.alC p)
 | _ => true
section
variable {E E' : Nat → Ent} {p q : Nat → Bool}
theorem map_all {α β : Type} {f g : α → β} {p : α → Bool} (hf : ∀ x, p x = true → f x = g x) {l : List α} (hl : l.all p = true) : l.map f = l.map g :=
 List.map_congr_left fun x hx => hf x (List.all_eq_true.1 hl x hx)
theorem SV.denA_congr (h : ∀ i, p i = true → E i = E' i) (s : SV) (hb : s.alA p = true) : s.denA E = s.denA E' := by
 obtain ⟨k, x, b, o, n, g, l, m, fn⟩ := s
 match k with
 | 1 | 2 | 3 | 4 =>
  have := h b hb
  simp only [SV.denA, this]
 | 0 | k + 5 => rfl
theorem SV.denB_congr (h : ∀ i, p i = true → E i = E' i) (s : SV) (hb : s.alB p = true) : s.denB E = s.denB E' := by
 have hA := s.denA_congr h
 obtain ⟨k, x, b, o, n, g, l, m, fn⟩ := s
 match k with
 | 5 => exact congrArg (fun y : List Value => Value.agg y.toArray) (map_all (SV.denA_congr h) hb)
 | 0 | 1 | 2 | 3 | 4 | 6 | 7 | 8 | k + 9 => exact hA hb
theorem SV.denC_congr (h : ∀ i, p i = true → E i = E' i) (s : SV) (hb : s.alC p = true) : s.denC E = s.denC E' := by
 have hA := s.denA_congr h
 obtain ⟨k, x, b, o, n, g, l, m, fn⟩ := s
 match k with
 | 7 =>
  have hb := Bool.and_eq_true_iff.1 hb
  simp only [SV.denC, map_all (SV.denA_congr h) hb.1, map_all (SV.denA_congr h) hb.2]
 | 8 => cases l with
  | nil => rfl
  | cons y l => exact congrArg (Value.iface b) (y.denB_congr h hb)
 | 0 | 1 | 2 | 3 | 4 | 5 | 6 | k + 9 => exact hA hb
theorem SV.denU_congr (h : ∀ i, p i = true → E i = E' i) (s : SV) (hb : s.alU p = true) : s.denU E = s.denU E' := by
 have hA := s.denC_congr h
 obtain ⟨k, x, b, o, n, g, l, m, fn⟩ := s
 match k with
 | 5 => exact congrArg (fun y : List Value => Value.agg y.toArray) (map_all (SV.denC_congr h) hb)
 | 0 | 1 | 2 | 3 | 4 | 6 | 7 | 8 | k + 9 => exact hA hb
theorem SV.den_congr (h : ∀ i, p i = true → E i = E' i) (s : SV) (hb : s.al p = true) : s.den E = s.den E' := by
 have hA := s.denU_congr h
 obtain ⟨k, x, b, o, n, g, l, m, fn⟩ := s
 match k with
 | 6 => exact congrArg (fun y : List Value => Value.tuple y.toArray) (map_all (SV.denU_congr h) hb)
 | 0 | 1 | 2 | 3 | 4 | 5 | 7 | 8 | k + 9 => exact hA hb
theorem It.den_congr (h : ∀ i, p i = true → E i = E' i) {i : Nat} (hi : E i = E' i) (s : It) (hb : s.al p = true) : s.den E i = s.den E' i := by
 obtain ⟨k, l, t, n, F, Z, D, T⟩ := s
 match k with
 | 0 => simp only [It.den, hi, map_all (SV.denC_congr h) hb]
 | 1 | 2 | 3 => simp only [It.den, hi]
 | k + 4 => rfl
theorem all_imp {α : Type} {f g : α → Bool} (h : ∀ x, f x = true → g x = true) {l : List α} (hl : l.all f = true) : l.all g = true :=
 List.all_eq_true.2 fun x hx => h x (List.all_eq_true.1 hl x hx)
theorem SV.alA_imp (h : ∀ i, p i = true → q i = true) (s : SV) (hb : s.alA p = true) : s.alA q = true := by
 obtain ⟨k, x, b, o, n, g, l, m, fn⟩ := s
 match k with
 | 1 | 2 | 3 | 4 => exact h b hb
 | 0 | k + 5 => rfl
theorem SV.alB_imp (h : ∀ i, p i = true → q i = true) (s : SV) (hb : s.alB p = true) : s.alB q = true := by
 have hA := s.alA_imp h
 obtain ⟨k, x, b, o, n, g, l, m, fn⟩ := s
 match k with
 | 5 => exact all_imp (SV.alA_imp h) hb
 | 0 | 1 | 2 | 3 | 4 | 6 | 7 | 8 | k + 9 => exact hA hb
theorem SV.alC_imp (h : ∀ i, p i = true → q i = true) (s : SV) (hb : s.alC p = true) : s.alC q = true := by
 have hA := s.alA_imp h
 obtain ⟨k, x, b, o, n, g, l, m, fn⟩ := s
 match k with
 | 7 => exact Bool.and_eq_true_iff.2 ((Bool.and_eq_true_iff.1 hb).imp (all_imp (SV.alA_imp h)) (all_imp (SV.alA_imp h)))
 | 8 => cases l with
  | nil => rfl
  | cons y l => exact y.alB_imp h hb
 | 0 | 1 | 2 | 3 | 4 | 5 | 6 | k + 9 => exact hA hb
theorem SV.alU_imp (h : ∀ i, p i = true → q i = true) (s : SV) (hb : s.alU p = true) : s.alU q = true := by
 have hA := s.alC_imp h
 obtain ⟨k, x, b, o, n, g, l, m, fn⟩ := s
 match k with
 | 5 => exact all_imp (SV.alC_imp h) hb
 | 0 | 1 | 2 | 3 | 4 | 6 | 7 | 8 | k + 9 => exact hA hb
theorem SV.al_imp (h : ∀ i, p i = true → q i = true) (s : SV) (hb : s.al p = true) : s.al q = true := by
 have hA := s.alU_imp h
 obtain ⟨k, x, b, o, n, g, l, m, fn⟩ := s
 match k with
 | 6 => exact all_imp (SV.alU_imp h) hb
 | 0 | 1 | 2 | 3 | 4 | 5 | 7 | 8 | k + 9 => exact hA hb
theorem It.al_imp (h : ∀ i, p i = true → q i = true) (s : It) (hb : s.al p = true) : s.al q = true := by
 obtain ⟨k, l, t, n, F, Z, D, T⟩ := s
 match k with
 | 0 => exact all_imp (SV.alC_imp h) hb
 | 1 | 2 | 3 | k + 4 => rfl
end
theorem It.ok_congr {E E' : Nat → Ent} {i : Nat} (h : E i = E' i) (s : It) : s.ok E i = s.ok E' i := by
 unfold It.ok
 rw [h]
def SV.renA (f : Nat → Nat) (s : SV) : SV := match s.k with
 | 1 | 2 | 3 | 4 => { s with b := f s.b }
 | _ => s
def SV.renB (f : Nat → Nat) (s : SV) : SV := match s.k with
 | 5 => { s with l := s.l.map (SV.renA f) }
 | _ => s.renA f
def SV.renC (f : Nat → Nat) (s : SV) : SV := match s.k with
 | 7 => { s with l := s.l.map (SV.renA f), m := s.m.map (SV.renA f) }
 | 8 => { s with l := s.l.map (SV.renB f) }
 | _ => s.renA f
def SV.renU (f : Nat → Nat) (s : SV) : SV := match s.k with
 | 5 => { s with l := s.l.map (SV.renC f) }
 | _ => s.renC f
def SV.ren (f : Nat → Nat) (s : SV) : SV := match s.k with
 | 6 => { s with l := s.l.map (SV.renU f) }
 | _ => s.renU f
def It.ren (f : Nat → Nat) (s : It) : It := match s.k with
 | 0 => { s with l := s.l.map (SV.renC f) }
 | _ => s
section
variable (f : Nat → Nat) (E : Nat → Ent)
theorem SV.denA_ren (s : SV) : (s.renA f).denA E = s.denA fun i => E (f i) := by
 obtain ⟨k, x, b, o, n, h, l, m, fn⟩ := s
 unfold SV.renA SV.denA
 match k with
 | 0 | 1 | 2 | 3 | 4 | k + 5 => rfl
theorem SV.denB_ren (s : SV) : (s.renB f).denB E = s.denB fun i => E (f i) := by
 have hA := s.denA_ren f E
 obtain ⟨k, x, b, o, n, h, l, m, fn⟩ := s
 match k with
 | 5 => simp only [SV.renB, SV.denB, List.map_map, Function.comp_def, SV.denA_ren]
 | 0 | 1 | 2 | 3 | 4 | 6 | 7 | 8 | k + 9 => exact hA
theorem SV.denC_ren (s : SV) : (s.renC f).denC E = s.denC fun i => E (f i) := by
 have hA := s.denA_ren f E
 obtain ⟨k, x, b, o, n, h, l, m, fn⟩ := s
 match k with
 | 7 => simp only [SV.renC, SV.denC, List.map_map, Function.comp_def, SV.denA_ren]
 | 8 => cases l with
  | nil => rfl
  | cons y l => simp only [SV.renC, SV.denC, List.map_cons, SV.denB_ren]
 | 0 | 1 | 2 | 3 | 4 | 5 | 6 | k + 9 => exact hA
theorem SV.denU_ren (s : SV) : (s.renU f).denU E = s.denU fun i => E (f i) := by
 have hA := s.denC_ren f E
 obtain ⟨k, x, b, o, n, h, l, m, fn⟩ := s
 match k with
 | 5 => simp only [SV.renU, SV.denU, List.map_map, Function.comp_def, SV.denC_ren]
 | 0 | 1 | 2 | 3 | 4 | 6 | 7 | 8 | k + 9 => exact hA
theorem SV.den_ren (s : SV) : (s.ren f).den E = s.den fun i => E (f i) := by
 have hA := s.denU_ren f E
 obtain ⟨k, x, b, o, n, h, l, m, fn⟩ := s
 match k with
 | 6 => simp only [SV.ren, SV.den, List.map_map, Function.comp_def, SV.denU_ren]
 | 0 | 1 | 2 | 3 | 4 | 5 | 7 | 8 | k + 9 => exact hA
theorem It.den_ren (i : Nat) (s : It) : (s.ren f).den E (f i) = s.den (fun i => E (f i)) i := by
 obtain ⟨k, l, t, n, F, Z, D, T⟩ := s
 match k with
 | 0 => simp only [It.ren, It.den, List.map_map, Function.comp_def, SV.denC_ren]
 | 1 | 2 | 3 | k + 4 => rfl
theorem It.ok_ren (i : Nat) (s : It) : (s.ren f).ok E (f i) = s.ok (fun i => E (f i)) i := by
 obtain ⟨k, l, t, n, F, Z, D, T⟩ := s
 match k with
 | 0 | 1 | 2 | 3 | k + 4 => rfl
end
theorem SV.den_A {s : SV} (h : s.isA = true) (E : Nat → Ent) : s.den E = s.denA E ∧ s.denU E = s.denA E ∧ s.denC E = s.denA E ∧ s.denB E = s.denA E := by
 obtain ⟨k, x, b, o, n, h, l, m, fn⟩ := s
 have hk : k ≤ 4 := Nat.le_of_ble_eq_true ‹_›
 match k, hk with
 | 0, _ | 1, _ | 2, _ | 3, _ | 4, _ => exact ⟨rfl, rfl, rfl, rfl⟩
theorem SV.den_C {s : SV} (h : s.isC = true) (E : Nat → Ent) : s.den E = s.denC E ∧ s.denU E = s.denC E := by
 obtain ⟨k, x, b, o, n, h, l, m, fn⟩ := s
 match k, h with
 | 0, _ | 1, _ | 2, _ | 3, _ | 4, _ | 7, _ | 8, _ | k + 9, _ => exact ⟨rfl, rfl⟩
theorem SV.den_U {s : SV} (h : s.isU = true) (E : Nat → Ent) : s.den E = s.denU E := by
 obtain ⟨k, x, b, o, n, h, l, m, fn⟩ := s
 match k, h with
 | 0, _ | 1, _ | 2, _ | 3, _ | 4, _ | 5, _ | 7, _ | 8, _ | k + 9, _ => rfl
end Go.Proofs.YtbdgncndhnnjoaaGreatDoor

namespace Go.Proofs.YtbdgncndhnnjoaaGreatDoor
open Go.RowKit
set_option linter.unusedVariables false
set_option linter.unusedSimpArgs false
structure VO where
 k : Nat
 n : Nat
 e : Nat
 b : Builtin
 ts : List TypeId
 cs : List Bool
 xs : List SV
def oCall (f : FuncId) (xs : List SV) : VO := ⟨0, f, 0, .append, [], [], xs⟩
def oBi (b : Builtin) (ts : List TypeId) (t : TypeId) (cs : List Bool) (xs : List SV) : VO := ⟨1, t, 0, b, ts, cs, xs⟩
def oOp (k n e : Nat) (cs : List Bool) (xs : List SV) : VO := ⟨k, n, e, .append, [], cs, xs⟩
def semV (s : Sem Value) : Sem Next := do pure (.value (← s))
def semU (s : Sem Unit) : Sem Next := do s; pure .skip
def argOf (xs : List Value) (i : Nat) : Value := xs.getD i undef
def optOf (cs : List Bool) (i : Nat) (v : Value) : Option Value := if cs.getD i false then some v else none
def VO.semL (q : VO) (a : List Value) : Sem Next := match q.k with
 | 0 => callFunc q.n a.toArray
 | 1 => builtin q.b q.ts.toArray q.n q.cs.toArray a.toArray
 | 2 => semV (Instr.loadAt q.n (argOf a 0))
 | 3 => semU (Instr.storeAt q.n (argOf a 0) (argOf a 1))
 | 4 => semV (Instr.indexAt q.n (argOf a 0) (argOf a 1))
 | 5 => semV (Instr.sliceAt q.n (argOf a 0) (optOf q.cs 0 (argOf a 1)) (optOf q.cs 1 (argOf a 2)) (optOf q.cs 2 (argOf a 3)))
 | 6 => semV (Instr.index q.n (argOf a 0) (argOf a 1))
 | 7 => semV (Instr.makeSlice q.n (argOf a 0) (argOf a 1))
 | 8 => semV (convert q.n q.e (argOf a 0))
 | 9 => semV (Instr.lookup q.n (argOf a 0) (argOf a 1) (q.cs.getD 0 false))
 | 10 => semU (Instr.mapUpdate q.n (argOf a 0) (argOf a 1) (argOf a 2))
 | 11 => semV (Instr.typeAssert (argOf a 0) q.n q.e (q.cs.getD 0 false))
 | 13 => semV (do eqGuard .eql q.n (.tmp 0) (.tmp 0) (argOf a 0) (argOf a 1); binOp .eql q.n (argOf a 0) (argOf a 1))
 | 14 => semV (do eqGuard .neq q.n (.tmp 0) (.tmp 0) (argOf a 0) (argOf a 1); binOp .neq q.n (argOf a 0) (argOf a 1))
 | 15 => semV (Instr.build q.n (q.ts.zip a).toArray)
 | 16 => semV (do eqGuard .add q.n (.tmp 0) (.tmp 0) (argOf a 0) (argOf a 1); binOp .add q.n (argOf a 0) (argOf a 1))
 | _ => semV (Instr.makeMap q.n none)
def VO.sem (q : VO) (E : Nat → Ent) : Sem Next := q.semL (q.xs.map (SV.den E))
def vop (ρ : Operand → SV) (o : Oper) : Option VO := match o.op with
 | .call c => match c.callee with
  | .value f =>
   let s := ρ f
   match s.k with
   | 7 => match s.fn with
    | .func g => if s.l.all SV.isA && s.m.all SV.isA then some (oCall g (s.l ++ c.args.toList.map ρ ++ s.m)) else none
    | _ => none
   | 0 => match s.x with
    | .func (.func g) fi ca => some (oCall g (fi.toList.map vV ++ c.args.toList.map ρ ++ ca.toList.map vV))
    | _ => none
   | _ => none
  | .builtin b => some (oBi b c.argTypes.toList o.type (c.args.toList.map fun | .const _ => true | _ => false) (c.args.toList.map ρ))
  | .invoke _ _ => none
 | .load t a => some (oOp 2 t 0 [] [ρ a])
 | .store t a x => some (oOp 3 t 0 [] [ρ a, ρ x])
 | .indexAddr t x i => some (oOp 4 t 0 [] [ρ x, ρ i])
 | .slice t x lo hi mx => some (oOp 5 t 0 [lo.isSome, hi.isSome, mx.isSome] [ρ x, (lo.map ρ).getD (vV undef), (hi.map ρ).getD (vV undef), (mx.map ρ).getD (vV undef)])
 | .index t x i => some (oOp 6 t 0 [] [ρ x, ρ i])
 | .makeSlice t l c => some (oOp 7 t 0 [] [ρ l, ρ c])
 | .convert s d x => some (oOp 8 s d [] [ρ x])
 | .lookup t x i ok => some (oOp 9 t 0 [ok] [ρ x, ρ i])
 | .mapUpdate t m k x => some (oOp 10 t 0 [] [ρ m, ρ k, ρ x])
 | .insert t m k x => some (oOp 10 t 0 [] [ρ m, ρ k, ρ x])
 | .typeAssert x t a ok => some (oOp 11 t a [ok] [ρ x])
 | .makeMap t none => some (oOp 12 t 0 [] [])
 | .build t ps => some ⟨15, t, 0, .append, ps.toList.map Prod.fst, [], ps.toList.map fun p => ρ p.2⟩
 | .binOp op t x y _ => match (ρ x).k, (ρ y).k, op with
  | 5, 5, .eql => some (oOp 13 t 0 [] [ρ x, ρ y])
  | 5, 5, .neq => some (oOp 14 t 0 [] [ρ x, ρ y])
  | 0, 0, .add => match (ρ x).x with
   | .string _ => some (oOp 16 t 0 [] [ρ x, ρ y])
   | _ => none
  | _, _, _ => none
 | _ => none
theorem SV.den5 {s : SV} (h : s.k = 5) (E : Nat → Ent) : s.den E = .agg (s.l.map (SV.denC E)).toArray := by
 simp only [SV.den, SV.denU, h]
theorem vop_run {ρ : Operand → SV} {o : Oper} {q : VO} (h : vop ρ o = some q) (E : Nat → Ent) (P : Program) (w : World) : (execOp (fun x => (ρ x).den E) o).run P w = (q.sem E).run P w := by
 obtain ⟨dst, op, type, pos, after, guard⟩ := o
 cases op <;> simp only [vop] at h <;> try (cases h; done)
 case load t a => cases h; rfl
 case build t ps =>
  cases h
  show (semV (Instr.build t (ps.map fun (i, x) => (i, (ρ x).den E)))).run P w = (semV (Instr.build t (((ps.toList.map Prod.fst).zip ((ps.toList.map fun p => ρ p.2).map (SV.den E))).toArray))).run P w
  congr 3
  apply Array.ext'
  simp only [Array.toList_map, List.map_map]
  generalize ps.toList = l
  induction l with
  | nil => rfl
  | cons p l ih => simp only [List.map_cons, List.zip_cons_cons, ih]; rfl
 case store t a x => cases h; rfl
 case indexAddr t x i => cases h; rfl
 case index t x i => cases h; rfl
 case makeSlice t l c => cases h; rfl
 case convert s d x => cases h; rfl
 case lookup t x i ok => cases h; rfl
 case mapUpdate t m k x => cases h; rfl
 case insert t m k x => cases h; rfl
 case typeAssert x t a ok => cases h; rfl
 case binOp op t x y r =>
  split at h
  ·rename_i h1 h2
   cases h
   show _ = (semV _).run P w
   simp only [VO.sem, VO.semL, oOp, argOf, List.map_cons, List.map_nil, List.getD_cons_zero, List.getD_cons_succ, execOp, SV.den5 h1, SV.den5 h2, eqGuard, semV]
  ·rename_i h1 h2
   cases h
   show _ = (semV _).run P w
   simp only [VO.sem, VO.semL, oOp, argOf, List.map_cons, List.map_nil, List.getD_cons_zero, List.getD_cons_succ, execOp, SV.den5 h1, SV.den5 h2, eqGuard, semV]
  ·split at h
   ·cases h
    rfl
   ·cases h
  ·cases h
 case makeMap t r =>
  cases r with
  | none => cases h; rfl
  | some r => cases h
 case slice t x lo hi mx =>
  cases h
  cases lo <;> cases hi <;> cases mx <;> rfl
 case call c =>
  obtain ⟨callee, args, argTypes⟩ := c
  cases callee with
  | invoke r m => cases h
  | builtin b =>
   cases h
   have e : args.map (fun x => (ρ x).den E) = (args.toList.map ρ |>.map (SV.den E)).toArray := by
    apply Array.ext'
    simp [Function.comp_def]
   simp only [execOp, resolve, VO.sem, VO.semL, oBi, e]
   simp only [invoke]
   refine congrArg (fun z => (builtin b argTypes type z _).run P w) ?_
   apply Array.ext'
   simp only [Array.toList_map]
   exact List.map_congr_left fun x _ => by cases x <;> rfl
  | value f =>
   simp only at h
   have e : args.map (fun x => (ρ x).den E) = (args.toList.map ρ |>.map (SV.den E)).toArray := by
    apply Array.ext'
    simp [Function.comp_def]
   split at h
   ·rename_i hk
    split at h
    ·rename_i g hfn
     split at h
     ·rename_i hA
      cases h
      simp only [Bool.and_eq_true] at hA
      have hd : (ρ f).den E = .func (.func g) ((ρ f).l.map (SV.denA E)).toArray ((ρ f).m.map (SV.denA E)).toArray := by
       simp only [SV.den, SV.denU, SV.denC, hk, hfn]
      have h1 : (ρ f).l.map (SV.den E) = (ρ f).l.map (SV.denA E) := map_all (fun x hx => (SV.den_A hx E).1) hA.1
      have h2 : (ρ f).m.map (SV.den E) = (ρ f).m.map (SV.denA E) := map_all (fun x hx => (SV.den_A hx E).1) hA.2
      simp only [execOp, resolve, Deferred.ofValue, hd, VO.sem, VO.semL, oCall, e, List.map_append, h1, h2]
      simp [invoke]
     ·cases h
    ·cases h
   ·rename_i hk
    split at h
    ·rename_i g fi ca hx
     cases h
     have hd : (ρ f).den E = .func (.func g) fi ca := by
      simp only [SV.den, SV.denU, SV.denC, SV.denA, hk, hx]
     have hv : ∀ l : List Value, (l.map vV).map (SV.den E) = l := fun l => by
      rw [List.map_map]
      exact List.map_id l
     simp only [execOp, resolve, Deferred.ofValue, hd, VO.sem, VO.semL, oCall, e, List.map_append, hv]
     simp only [invoke]
     refine congrArg (fun z => (callFunc g z).run P w) ?_
     apply Array.ext'
     simp
    ·cases h
   ·cases h
def Fin (P : Program) (r : Result Next) (K : Value → World → Prop) : Prop := match r with
 | .ok (.value v) w' => K v w'
 | .ok .skip w' => K undef w'
 | .ok (.enter f xs) w' => Calls P f xs w' fun e w'' => ∃ v, e = .returned v ∧ K v w''
 | _ => False
theorem Fin.mono {P : Program} {r : Result Next} {K K' : Value → World → Prop} (h : Fin P r K) (hk : ∀ v w, K v w → K' v w) : Fin P r K' := by
 unfold Fin at *
 split <;> simp_all only
 exact Calls.mono h fun e w ⟨v, he, hv⟩ => ⟨v, he, hk _ _ hv⟩
theorem Fin.wp {P : Program} {o : Oper} {a : Act} {w : World} {K : Act → World → Prop} {Q : Exit → Act → World → Prop} (h : Fin P ((execOp a.eval o).run P w) fun v w' => K (a.put o.dst v) w') : o.wp P a w K Q := by
 unfold Oper.wp
 generalize (execOp a.eval o).run P w = r at *
 cases r with
 | halt x w' => exact h.elim
 | ok n w' =>
  cases n <;> first | exact h.elim | skip
  case value v => exact h
  case skip => exact h
  case enter f xs => exact Calls.mono h fun e w'' ⟨v, he, hk⟩ => by subst he; exact hk
def LS {P : Program} (S : Seat P) (C : World → Prop) (q : (Nat → Ent) → Sem Next) (pre : List (Nat × It)) (nw : Nat → Bool) (v : SV) (post : List (Nat × It)) : Prop :=
 ∀ (E : Nat → Ent) (w : World), S.laid w → (∀ w', Grw w w' ((denP E pre).map Blk.g) → C w') → There S w (denP E pre) → okP E pre →
  Fin P ((q E).run P w) fun r w' => ∃ E' : Nat → Ent, (∀ i, nw i = false → E' i = E i) ∧ okP E' post ∧ r = v.den E' ∧ OkT w w' (denP E pre) (denP E' post)
def ix (b : Nat) : List It → List (Nat × It)
 | [] => []
 | x :: l => (b, x) :: ix (b + 1) l
def newAt (b n : Nat) (i : Nat) : Bool := Nat.ble b i && Nat.blt i (b + n)
structure Sp {P : Program} (S : Seat P) (C : World → Prop) (b : Nat) where
 q : VO
 R : List (Nat × It)
 I : List (Nat × It)
 J : List It
 N : List It
 v : SV
 pf : J.length = I.length → (∀ p ∈ R ++ I, p.1 < b) → LS S C q.sem (R ++ I) (newAt b N.length) v (R ++ ((I.map Prod.fst).zip J ++ ix b N))
structure Dr {P : Program} (S : Seat P) (C : World → Prop) where
 k : Nat
 f : (b : Nat) → Option (Sp S C b)
 x : Value
 y : Value
 e : x = y
def dSp {P : Program} {S : Seat P} {C : World → Prop} (f : (b : Nat) → Sp S C b) : Dr S C := ⟨0, fun b => some (f b), undef, undef, rfl⟩
def dEq {P : Program} {S : Seat P} {C : World → Prop} {x y : Value} (e : x = y) : Dr S C := ⟨1, fun _ => none, x, y, e⟩
structure Tk where
 q : Option VO
 i : List It
 s : List SV
 r : (Nat → Ent) → World → Result Next
 b : (Nat → Ent) → Option Bool
def tkQ (q : Option VO) : Tk := ⟨q, [], [], fun _ w => .halt .blocked w, fun _ => none⟩
structure Rs where
 v : SV
 R : List Nat
 W : List (Nat × It)
 N : List It
 A : List Tk
 B : List Tk
def isLt (n : Nat) (i : Nat) : Bool := Nat.blt i n
def asBoolS (s : SV) : Option Bool := match s.k with
 | 0 => match s.x with
  | .bool b => some b
  | _ => none
 | _ => none
def asIntS (s : SV) : Option (IntKind × Int) := match s.k with
 | 0 => match s.x with
  | .int k n => some (k, n)
  | _ => none
 | _ => none
def sizeT (P : Program) (t : TypeId) : Nat := ((P.info? t).map (·.size)).getD 0
def isAggT (P : Program) (t : TypeId) : Bool := match P.underlying t with
 | some d => d.isRow
 | none => false
def shv (s : SV) : Option Value := match s.k with
 | 0 => some s.x
 | 5 => if s.l.all (fun y => Nat.beq y.k 0) then some (.agg (s.l.map SV.x).toArray) else none
 | 8 => match s.l with
  | [y] => match y.k with
   | 0 => some (.iface s.b y.x)
   | _ => none
  | _ => none
 | 7 => if s.l.all (fun y => Nat.beq y.k 0) && s.m.all (fun y => Nat.beq y.k 0) then some (.func s.fn (s.l.map SV.x).toArray (s.m.map SV.x).toArray) else none
 | _ => none
def partS (P : Program) (t : TypeId) (l : List SV) (off : Nat) : Option SV :=
 if isAggT P t then some (vG ((l.drop off).take (sizeT P t))) else l[off]?
def zeroS (P : Program) (t : TypeId) : List SV := (((P.info? t).bind (·.zero)).getD undef).cells.toList.map vV
def cellsS (s : SV) : List SV := match s.k with
 | 5 => s.l
 | 0 => s.x.cells.toList.map vV
 | _ => [s]
def layS (l : List SV) (o : Nat) (c : List SV) : List SV := l.take o ++ (c ++ l.drop (o + c.length))
def fillS (place : Nat → Option Nat) (cells : List SV) : List (Nat × SV) → Option (List SV)
 | [] => some cells
 | (i, v) :: rest => match place i with
  | none => none
  | some off => fillS place (layS cells off (cellsS v)) rest
def pureS (P : Program) (ρ : Operand → SV) (o : Oper) : Option SV := match o.op with
 | .move x | .assign x => some (ρ x)
 | .pick c a b => match asBoolS (ρ c) with
  | some true => some (ρ a)
  | some false => some (ρ b)
  | none => none
 | .nilCheck x => some (ρ x)
 | .extract t i => match (ρ t).k with
  | 6 => (ρ t).l[i]?
  | _ => none
 | .fieldAddr s x f => match (ρ x).k, P.underlying s with
  | 1, some (.struct fs) => match fs.toList[f]? with
   | some g => some (vP (ρ x).b ((ρ x).o + g.offset))
   | none => none
  | _, _ => none
 | .field s x f => match (ρ x).k, P.underlying s with
  | 5, some (.struct fs) => match fs.toList[f]? with
   | some g => partS P g.type (ρ x).l g.offset
   | none => none
  | _, _ => none
 | .indexAddr t x i => match (ρ x).k, P.underlying t, asIntS (ρ i) with
  | 1, some (.array _ e), some (_, n) => some (vP (ρ x).b ((ρ x).o + n.toNat * sizeT P e))
  | 2, some (.slice e), some (_, n) => some (vP (ρ x).b ((ρ x).o + n.toNat * sizeT P e))
  | _, _, _ => none
 | .index t x i => match (ρ x).k, P.underlying t, asIntS (ρ i) with
  | 5, some (.array _ e), some (_, n) => partS P e (ρ x).l (n.toNat * sizeT P e)
  | _, _, _ => none
 | .slice t x lo hi _ =>
  let l := ((lo.bind fun y => asIntS (ρ y)).map fun p => p.2.toNat).getD 0
  match (ρ x).k, P.underlying t with
  | 1, some (.array n e) => let h := ((hi.bind fun y => asIntS (ρ y)).map fun p => p.2.toNat).getD n
   some (vS (ρ x).b ((ρ x).o + l * sizeT P e) (h - l) (n - l))
  | 2, some (.slice e) => let h := ((hi.bind fun y => asIntS (ρ y)).map fun p => p.2.toNat).getD (ρ x).n
   some (vS (ρ x).b ((ρ x).o + l * sizeT P e) (h - l) ((ρ x).h - l))
  | _, _ => none
 | .makeInterface t x => if (ρ x).isB then some (vI t (ρ x)) else none
 | .makeFunc fn a c => if a.toList.all (fun y => (ρ y).isA) && c.toList.all (fun y => (ρ y).isA) then some (vF fn (a.toList.map ρ) (c.toList.map ρ)) else none
 | .build t ps => match P.underlying t with
  | some (.struct fs) => (fillS (fun i => (fs.toList[i]?).map (·.offset)) (zeroS P t) (ps.toList.map fun p => (p.1, ρ p.2))).map vG
  | some (.array _ e) => (fillS (fun i => some (i * sizeT P e)) (zeroS P t) (ps.toList.map fun p => (p.1, ρ p.2))).map vG
  | _ => none
 | .call c => match c.callee, c.args.toList with
  | .builtin .len, [x] => match (ρ x).k with
   | 2 => some (vV (.int .i64 ((ρ x).n : Nat)))
   | _ => none
  | .builtin .cap, [x] => match (ρ x).k with
   | 2 => some (vV (.int .i64 ((ρ x).h : Nat)))
   | _ => none
  | _, _ => none
 | .binOp op _ x y _ => match op, (ρ x).k, (ρ y).k, (ρ x).x, (ρ y).x with
  | .eql, 1, 0, _, .pointer none | .eql, 0, 1, .pointer none, _ | .eql, 2, 0, _, .slice none _ _ | .eql, 7, 0, _, .nilFunc | .eql, 8, 0, _, .nilIface | .eql, 4, 0, _, .map none => some (vV (.bool false))
  | .neq, 1, 0, _, .pointer none | .neq, 0, 1, .pointer none, _ | .neq, 2, 0, _, .slice none _ _ | .neq, 7, 0, _, .nilFunc | .neq, 8, 0, _, .nilIface | .neq, 4, 0, _, .map none => some (vV (.bool true))
  | _, _, _, _, _ => none
 | _ => none
def pureOf (P : Program) : Sem Next → Option Value
 | .pure (.value v) => some v
 | .program k => pureOf P (k P)
 | .mark _ k => pureOf P k
 | _ => none
def pureV (P : Program) (ρ : Operand → SV) (o : Oper) : Option SV :=
 if o.op.operands.toList.all (fun x => (shv (ρ x)).isSome) then (pureOf P (execOp (fun x => (shv (ρ x)).getD undef) o)).map vV else none
def allocS (P : Program) (ρ : Operand → SV) (o : Oper) (b : Nat) : Option (List SV × TypeId × SV) := match o.op with
 | .alloc t => some (zeroS P t, t, vP b 0)
 | .box t x => some (cellsS (ρ x), t, vP b 0)
 | .buildSlice t n ps => match P.underlying t with
  | some (.slice e) => (fillS (fun i => some (i * sizeT P e)) ((List.range (n * sizeT P e)).map fun j => (zeroS P e).getD (j % (zeroS P e).length) (vV undef)) (ps.toList.map fun p => (p.1, ρ p.2))).map fun l => (l, e, vS b 0 n n)
  | _ => none
 | .makeSlice t l c => match P.underlying t, asIntS (ρ l), asIntS (ρ c) with
  | some (.slice e), some (_, n), some (_, h) => some ((List.range (h.toNat * sizeT P e)).map fun j => (zeroS P e).getD (j % (zeroS P e).length) (vV undef), e, vS b 0 n.toNat h.toNat)
  | _, _, _ => none
 | _ => none
end Go.Proofs.YtbdgncndhnnjoaaGreatDoor

namespace Go.Proofs.YtbdgncndhnnjoaaGreatDoor
open Go.RowKit
set_option linter.unusedVariables false
set_option linter.unusedSimpArgs false
def lk (m : List It) (l : List Nat) : List (Nat × It) := l.map fun i => (i, (m[i]?).getD gap)
def noTw : List Nat → Bool
 | [] => true
 | i :: l => l.all (fun j => !Nat.beq i j) && noTw l
def inM (m : List It) (l : List Nat) : Bool := l.all (isLt m.length) && noTw l
def one1 (s : SV) : Bool := match s.k with
 | 0 => s.x.oneCell'
 | 1 | 2 | 3 | 4 | 7 => true
 | 8 => Nat.beq s.l.length 1
 | _ => false
def upE (E : Nat → Ent) (b g : Nat) : Nat → Ent := fun i => bif Nat.beq i b then ⟨g, .bool false, [], rfl⟩ else E i
def aggT (P : Program) (t : TypeId) : Option Bool := (P.underlying t).map (·.isRow)
def tk0 : Tk := tkQ none
def opS {P : Program} (S : Seat P) (C : World → Prop) (ρ : Operand → SV) (m : List It) (o : Oper) : Option (Dr S C) → Option (Rs × Tk × Tk)
 | some d => match d.k with
  | 0 => match d.f m.length with
   | some sp => if inM m (sp.R.map Prod.fst ++ sp.I.map Prod.fst) && Nat.beq sp.J.length sp.I.length then
     some (⟨sp.v, sp.R.map Prod.fst, (sp.I.map Prod.fst).zip sp.J, sp.N, [], []⟩,
      { tk0 with q := vop ρ o, i := (lk m (sp.R.map Prod.fst ++ sp.I.map Prod.fst)).map Prod.snd }, { tk0 with q := some sp.q, i := (sp.R ++ sp.I).map Prod.snd }) else none
   | none => none
  | _ => match (pureS P ρ o).orElse fun _ => pureV P ρ o with
   | some v => some (⟨vV d.y, [], [], [], [], []⟩,
     { tk0 with s := [v], r := fun E w => (execOp (fun x => (ρ x).den E) o).run P w }, { tk0 with s := [vV d.x], r := fun E w => .ok (.value (v.den E)) w })
   | none => none
 | none => match o.op with
  | .load t a => match (ρ a).k, m[(ρ a).b]?, aggT P t with
   | 1, some it, some ag => match it.k with
    | 0 => match ag with
     | true => if Nat.ble ((ρ a).o + sizeT P t) it.l.length then some (⟨vG ((it.l.drop (ρ a).o).take (sizeT P t)), [(ρ a).b], [], [], [], []⟩, tk0, tk0) else none
     | false => match it.l[(ρ a).o]? with
      | some s => if s.isC then some (⟨s, [(ρ a).b], [], [], [], []⟩, tk0, tk0) else none
      | none => none
    | _ => none
   | _, _, _ => none
  | .store t a x => match (ρ a).k, m[(ρ a).b]? with
   | 1, some it => match it.k with
    | 0 => let c := cellsS (ρ x)
     if Nat.beq c.length (sizeT P t) && (P_some P t) && Nat.ble ((ρ a).o + c.length) it.l.length && c.all one1 && c.all SV.isC then some (⟨vV undef, [], [((ρ a).b, tC (layS it.l (ρ a).o c) it.t)], [], [], []⟩, tk0, tk0) else none
    | _ => none
   | _, _ => none
  | .alloc _ | .box _ _ | .buildSlice _ _ _ | .makeSlice _ _ _ => match allocS P ρ o m.length with
   | some (l, t, v) => if l.all (SV.alC (isLt m.length)) then some (⟨v, [], [], [tC l t], [], []⟩,
     { tk0 with r := fun E w => (execOp (fun x => (ρ x).den E) o).run P w }, { tk0 with r := fun E w => .ok (.value (v.den (upE E m.length w.heap.size))) (w.alloc (.cells (l.map (SV.denC E)).toArray t (0, 0))) }) else none
   | none => none
  | _ => match (pureS P ρ o).orElse fun _ => pureV P ρ o with
   | some v => some (⟨v, [], [], [], [], []⟩,
     { tk0 with r := fun E w => (execOp (fun x => (ρ x).den E) o).run P w }, { tk0 with r := fun E w => .ok (.value (v.den E)) w })
   | none => none
where
 P_some (P : Program) (t : TypeId) : Bool := (P.info? t).isSome
theorem ls_pure {P : Program} {S : Seat P} {C : World → Prop} {q : (Nat → Ent) → Sem Next} {v : SV} {b : Nat} (h : ∀ E w, (q E).run P w = .ok (.value (v.den E)) w) : LS S C q [] (newAt b 0) v [] := fun E w _ _ T _ => by
 rw [h]
 exact ⟨E, fun _ _ => rfl, by simp [okP], rfl, OkT.refl T⟩
theorem load_one {P : Program} {w : World} {g o : Nat} {t : TypeId} {v : Value} (ha : aggT P t = some false) (hc : w.cell? ⟨g, o, none⟩ = some v) : (semV (Instr.loadAt t (.pointer (some ⟨g, o, none⟩)))).run P w = .ok (.value v) w := by
 unfold aggT at ha
 cases hu : P.underlying t with
 | none => rw [hu] at ha; cases ha
 | some d =>
  rw [hu] at ha
  have hd : d.isRow = false := by simpa using ha
  have hag : (isAgg t).run P w = .ok false w := by
   unfold isAgg
   rw [Sem.run_bind, run_underlying hu w]
   cases d <;> simp_all
  simp [semV, Instr.loadAt, Instr.sureAddr, loadVar, hag, hc]
theorem load_row {P : Program} {w : World} {g o : Nat} {t : TypeId} {cs : List Value} (ha : aggT P t = some true) (hs : cs.length = sizeT P t) (h0 : (P.info? t).isSome = true) (hc : w.rangeAt g o cs) : (semV (Instr.loadAt t (.pointer (some ⟨g, o, none⟩)))).run P w = .ok (.value (.agg cs.toArray)) w := by
 unfold aggT at ha
 cases hu : P.underlying t with
 | none => rw [hu] at ha; cases ha
 | some d =>
  rw [hu] at ha
  have hd : d.isRow = true := by simpa using ha
  have hi : (P.info? t).map (·.size) = some cs.length := by
   unfold sizeT at hs
   cases hq : P.info? t with
   | none => rw [hq] at h0; cases h0
   | some i => rw [hq] at hs; simpa using hs.symm
  simp [semV, run_loadAt_mid w g o t cs d hc hu hd hi]
theorem info_some {P : Program} {t : TypeId} {b : Bool} (h : aggT P t = some b) : (P.info? t).isSome = true := by
 unfold aggT Program.underlying at h
 cases hq : P.info? t with
 | none => rw [hq] at h; cases h
 | some i => rfl
def setAll (cs : Array Value) : Nat → List Value → Array Value
 | _, [] => cs
 | o, v :: vs => setAll (cs.setIfInBounds o v) (o + 1) vs
theorem setAll_eq : ∀ (vs : List Value) (cs : List Value) (o : Nat), o + vs.length ≤ cs.length → setAll cs.toArray o vs = (cs.take o ++ (vs ++ cs.drop (o + vs.length))).toArray
 | [], cs, o, _ => by simp [setAll]
 | v :: vs, cs, o, h => by
  simp only [List.length_cons] at h
  have ih := setAll_eq vs (cs.set o v) (o + 1) (by simp; omega)
  simp only [setAll]
  rw [show cs.toArray.setIfInBounds o v = (cs.set o v).toArray by simp, ih]
  congr 1
  rw [List.take_set, List.drop_set, if_pos (by omega), List.length_cons]
  have ht : (cs.take (o + 1)).set o v = cs.take o ++ [v] := by
   rw [List.set_eq_take_append_cons_drop, if_pos (by simp; omega), List.take_take, Nat.min_eq_left (by omega)]
   simp
  rw [ht, show o + 1 + vs.length = o + (vs.length + 1) by omega]
  simp
theorem heap_setCells (g : Nat) (T : TypeId) (vs : List Value) : ∀ (W : World) (cs : Array Value) (o : Nat), W.heap[g]? = some (.cells cs T (0, 0)) → (W.setCells g o vs).heap[g]? = some (.cells (setAll cs o vs) T (0, 0)) := by
 induction vs with
 | nil => intro W cs o h; exact h
 | cons v vs ih =>
  intro W cs o h
  exact ih _ _ _ (heap_setCell_same W g o cs T v h)
theorem grw_setCell (W : World) (g o : Nat) (v : Value) : Grw W (W.setCell ⟨g, o, none⟩ v) [g] :=
 ⟨rfl, rfl, rfl, by simp, fun k _ hr => Below.heap_setCell _ _ _ _ (fun e => hr (by rw [e]; exact List.mem_singleton.2 rfl))⟩
theorem grw_setCells (g : Nat) (vs : List Value) : ∀ (W : World) (o : Nat), Grw W (W.setCells g o vs) [g] := by
 induction vs with
 | nil => intro W o; exact grw_refl _ _
 | cons v vs ih => intro W o; exact (grw_setCell W g o v).trans (ih _ _) fun x hx => .inr hx
theorem cell_at {W : World} {g T : Nat} {cs : List Value} (h : W.heap[g]? = some (.cells cs.toArray T (0, 0))) (i : Nat) : W.cell? ⟨g, i, none⟩ = cs[i]? := by
 unfold World.cell?
 rw [h]
 simp
theorem free_at {W : World} {g T : Nat} {cs : Array Value} (h : W.heap[g]? = some (.cells cs T (0, 0))) (i : Nat) : W.frozen? ⟨g, i, none⟩ = false := by
 unfold World.frozen?
 rw [h]
 simp
theorem store_run {P : Program} {w : World} {g o T : Nat} {t : TypeId} {v : Value} {cs vs : List Value} (hg : w.heap[g]? = some (.cells cs.toArray T (0, 0))) (hv : v.cells.toList = vs) (hs : vs.length = sizeT P t) (h0 : (P.info? t).isSome = true) (hle : o + vs.length ≤ cs.length) (h1 : ∀ u ∈ vs, u.oneCell' = true) :
  (semU (Instr.storeAt t (.pointer (some ⟨g, o, none⟩)) v)).run P w = .ok .skip (w.setCells g o vs) := by
 have hst := run_storeCells_cells (P := P) g o vs 0 w (fun j hj => by rw [Nat.add_zero, cell_at hg, List.getElem?_eq_getElem (by omega)]; rfl) (fun j _ => free_at hg _) h1
 rw [Nat.add_zero] at hst
 unfold sizeT at hs
 cases hq : P.info? t with
 | none => rw [hq] at h0; cases h0
 | some i =>
  rw [hq] at hs
  have hsz : v.cells.size = i.size := by
   rw [← Array.length_toList, hv]
   simpa using hs
  simp [semU, Instr.storeAt, Instr.sureAddr, storeVar, sizeOf, typeInfo, hq, hsz, hv, hst]
theorem one_den {s : SV} (h : one1 s = true) (E : Nat → Ent) : (s.denC E).oneCell' = true := by
 obtain ⟨k, x, b, o, n, hh, l, m, fn⟩ := s
 match k, h with
 | 0, h => exact h
 | 1, _ | 2, _ | 4, _ | 7, _ => rfl
 | 3, _ => exact (E b).one
 | 8, h =>
  match l, h with
  | [y], _ => rfl
theorem cells_one {v : Value} (h : v.oneCell' = true) : v.cells.toList = [v] := by
 cases v <;> first | rfl | cases h
theorem cellsS_den {s : SV} (h : (cellsS s).all one1 = true) (E : Nat → Ent) : (s.den E).cells.toList = (cellsS s).map (SV.denC E) := by
 have key : one1 s = true → s.isC = true → (s.den E).cells.toList = [s.denC E] := fun h1 h2 => by
  rw [(SV.den_C h2 E).1]
  exact cells_one (one_den h1 E)
 obtain ⟨k, x, b, o, n, hh, l, m, fn⟩ := s
 match k with
 | 5 => simp [SV.den, SV.denU, cellsS, Value.cells]
 | 0 =>
  show x.cells.toList = (x.cells.toList.map vV).map (SV.denC E)
  rw [List.map_map]
  exact (List.map_id _).symm
 | 6 => simp [cellsS, one1] at h
 | 1 | 2 | 3 | 4 | 7 | 8 => exact key (by simpa [cellsS] using h) rfl
 | k + 9 => simp [cellsS, one1] at h
theorem layS_den (E : Nat → Ent) (l c : List SV) (o : Nat) : (layS l o c).map (SV.denC E) = (l.map (SV.denC E)).take o ++ (c.map (SV.denC E) ++ (l.map (SV.denC E)).drop (o + (c.map (SV.denC E)).length)) := by
 simp [layS, List.map_take, List.map_drop]
theorem there1 {P : Program} {S : Seat P} {w : World} {b : Blk} (h : There S w [b]) : w.heap[b.g]? = some b.Z := h.at_ b (by simp)
end Go.Proofs.YtbdgncndhnnjoaaGreatDoor

namespace Go.Proofs.YtbdgncndhnnjoaaGreatDoor
open Go.RowKit
set_option linter.unusedVariables false
set_option linter.unusedSimpArgs false
theorem pair_ext {α β : Type} : ∀ {l m : List (α × β)}, l.map Prod.fst = m.map Prod.fst → l.map Prod.snd = m.map Prod.snd → l = m
 | [], [], _, _ => rfl
 | [], _ :: _, h, _ => by simp at h
 | _ :: _, [], h, _ => by simp at h
 | (a, b) :: l, (c, d) :: m, h1, h2 => by
  simp only [List.map_cons, List.cons.injEq] at h1 h2
  obtain ⟨rfl, h1⟩ := h1
  obtain ⟨rfl, h2⟩ := h2
  rw [pair_ext h1 h2]
theorem lk_fst (m : List It) (l : List Nat) : (lk m l).map Prod.fst = l := by simp [lk, Function.comp_def]
theorem lk_app (m : List It) (l k : List Nat) : lk m (l ++ k) = lk m l ++ lk m k := by simp [lk]
theorem zip_fst {α β : Type} : ∀ {l : List α} {m : List β}, m.length = l.length → (l.zip m).map Prod.fst = l
 | [], [], _ => rfl
 | [], _ :: _, h => by simp at h
 | _ :: _, [], h => by simp at h
 | a :: l, b :: m, h => by simp only [List.zip_cons_cons, List.map_cons, zip_fst (l := l) (m := m) (by simpa using h)]
theorem noTw_append {l m : List Nat} (h : noTw (l ++ m) = true) : noTw m = true ∧ ∀ i ∈ l, ∀ j ∈ m, i ≠ j := by
 induction l with
 | nil => exact ⟨h, by simp⟩
 | cons i l ih =>
  simp only [List.cons_append, noTw, Bool.and_eq_true, List.all_eq_true] at h
  obtain ⟨h1, h2⟩ := ih h.2
  refine ⟨h1, fun x hx j hj => ?_⟩
  rcases List.mem_cons.1 hx with rfl | hx
  ·have := h.1 j (by simp [hj])
   intro e
   subst e
   simp at this
  ·exact h2 x hx j hj
theorem ls_congr {P : Program} {S : Seat P} {C : World → Prop} {q q' : (Nat → Ent) → Sem Next} {pre post : List (Nat × It)} {nw : Nat → Bool} {v : SV} (h : LS S C q pre nw v post) (e : ∀ E w, (q' E).run P w = (q E).run P w) : LS S C q' pre nw v post := fun E w h1 h2 h3 h4 => by
 rw [e]
 exact h E w h1 h2 h3 h4
theorem den0 {s : SV} (h : s.k = 0) (E : Nat → Ent) : s.den E = s.x := by
 simp only [SV.den, SV.denU, SV.denC, SV.denA, h]
theorem den1 {s : SV} (h : s.k = 1) (E : Nat → Ent) : s.den E = .pointer (some ⟨(E s.b).g, s.o, none⟩) := by
 simp only [SV.den, SV.denU, SV.denC, SV.denA, h]
theorem it0 {s : It} (h : s.k = 0) (E : Nat → Ent) (i : Nat) : s.den E i = [⟨(E i).g, .cells (s.l.map (SV.denC E)).toArray s.t (0, 0)⟩] := by
 simp only [It.den, h]
theorem getD_some {m : List It} {i : Nat} {x : It} (h : m[i]? = some x) : (m[i]?).getD gap = x := by rw [h]; rfl
theorem inM1 {m : List It} {i : Nat} {x : It} (h : m[i]? = some x) : inM m [i] = true := by
 have := (List.getElem?_eq_some_iff.1 h).1
 simp [inM, noTw, isLt, Nat.blt_eq, this]
theorem nbeq {a b : Nat} : Nat.beq a b = true ↔ a = b := ⟨Nat.eq_of_beq_eq_true, fun h => by subst h; exact Nat.beq_refl a⟩
theorem nbne {a b : Nat} : Nat.beq a b = false ↔ a ≠ b := ⟨Nat.ne_of_beq_eq_false, fun h => by
 cases e : Nat.beq a b with
 | false => rfl
 | true => exact absurd (nbeq.1 e) h⟩
theorem opS_ok {P : Program} {S : Seat P} {C : World → Prop} {ρ : Operand → SV} {m : List It} {o : Oper} {d : Option (Dr S C)} {rs : Rs} {a b : Tk} (h : opS S C ρ m o d = some (rs, a, b)) (e : a = b) :
  inM m (rs.R ++ rs.W.map Prod.fst) = true ∧ LS S C (fun E => execOp (fun x => (ρ x).den E) o) (lk m (rs.R ++ rs.W.map Prod.fst)) (newAt m.length rs.N.length) rs.v (lk m rs.R ++ (rs.W ++ ix m.length rs.N)) := by
 unfold opS at h
 split at h
 ·rename_i d
  split at h
  ·split at h
   ·rename_i sp hsp
    split at h
    ·rename_i hc
     simp only [Bool.and_eq_true, nbeq] at hc
     obtain ⟨hin, hlen⟩ := hc
     simp only [Option.some.injEq, Prod.mk.injEq] at h
     obtain ⟨rfl, rfl, rfl⟩ := h
     have hq : vop ρ o = some sp.q := congrArg Tk.q e
     have hi : (lk m (sp.R.map Prod.fst ++ sp.I.map Prod.fst)).map Prod.snd = (sp.R ++ sp.I).map Prod.snd := congrArg Tk.i e
     have hz : ((sp.I.map Prod.fst).zip sp.J).map Prod.fst = sp.I.map Prod.fst := zip_fst (by simpa using hlen)
     have hp : lk m (sp.R.map Prod.fst ++ sp.I.map Prod.fst) = sp.R ++ sp.I := pair_ext (by rw [lk_fst]; simp) hi
     have hR : lk m (sp.R.map Prod.fst) = sp.R := by
      rw [lk_app] at hp
      exact (List.append_inj hp (by simp [lk])).1
     have hlt : ∀ i ∈ sp.R.map Prod.fst ++ sp.I.map Prod.fst, i < m.length := fun i hi2 => by
      simp only [inM, Bool.and_eq_true, List.all_eq_true] at hin
      simpa [isLt, Nat.blt_eq] using hin.1 i hi2
     refine ⟨by rw [hz]; exact hin, ?_⟩
     rw [hz, hp, hR]
     exact ls_congr (sp.pf hlen fun p hp => hlt p.1 (by rw [← List.map_append]; exact List.mem_map_of_mem hp)) fun E w => vop_run hq E _ _
    ·cases h
   ·cases h
  ·split at h
   ·rename_i v hv
    simp only [Option.some.injEq, Prod.mk.injEq] at h
    obtain ⟨rfl, rfl, rfl⟩ := h
    have hs : [v] = [vV d.x] := congrArg Tk.s e
    have hr : (fun (E : Nat → Ent) w => (execOp (fun x => (ρ x).den E) o).run P w) = fun E w => .ok (.value (v.den E)) w := congrArg Tk.r e
    refine ⟨rfl, ls_pure fun E w => ?_⟩
    rw [congrFun (congrFun hr E) w, (List.cons.inj hs).1, ← d.e]
   ·cases h
 ·have pureCase : ∀ v : SV, (⟨v, [], [], [], [], []⟩ : Rs) = rs → (fun (E : Nat → Ent) w => (execOp (fun x => (ρ x).den E) o).run P w) = (fun E w => .ok (.value (v.den E)) w) → inM m (rs.R ++ rs.W.map Prod.fst) = true ∧ LS S C (fun E => execOp (fun x => (ρ x).den E) o) (lk m (rs.R ++ rs.W.map Prod.fst)) (newAt m.length rs.N.length) rs.v (lk m rs.R ++ (rs.W ++ ix m.length rs.N)) := fun v hv hr => by
   subst hv
   exact ⟨rfl, ls_pure fun E w => congrFun (congrFun hr E) w⟩
  have allocCase : ∀ (l : List SV) (t : TypeId) (v : SV), l.all (SV.alC (isLt m.length)) = true → (⟨v, [], [], [tC l t], [], []⟩ : Rs) = rs → (fun (E : Nat → Ent) w => (execOp (fun x => (ρ x).den E) o).run P w) = (fun E w => .ok (.value (v.den (upE E m.length w.heap.size))) (w.alloc (.cells (l.map (SV.denC E)).toArray t (0, 0)))) → inM m (rs.R ++ rs.W.map Prod.fst) = true ∧ LS S C (fun E => execOp (fun x => (ρ x).den E) o) (lk m (rs.R ++ rs.W.map Prod.fst)) (newAt m.length rs.N.length) rs.v (lk m rs.R ++ (rs.W ++ ix m.length rs.N)) := fun l t v hl hv hr => by
   subst hv
   refine ⟨rfl, fun E w hL _ _ _ => ?_⟩
   rw [congrFun (congrFun hr E) w]
   have hE : ∀ i, isLt m.length i = true → upE E m.length w.heap.size i = E i := fun i hi => by
    have : i < m.length := by simpa [isLt, Nat.blt_eq] using hi
    have h2 : Nat.beq i m.length = false := nbne.2 (by omega)
    simp only [upE, h2, cond_false]
   have hb : (upE E m.length w.heap.size m.length).g = w.heap.size := by simp [upE]
   refine ⟨upE E m.length w.heap.size, fun i hi => ?_, ?_, rfl, ⟨⟨rfl, rfl, rfl, by simp, fun k hk _ => Below.heap_alloc _ _ _ hk⟩, ?_, by simp [denP, ix, It.den, tC, lk], ?_⟩⟩
   ·have h2 : Nat.beq i m.length = false := nbne.2 fun h3 => by
     subst h3
     simp [newAt, Nat.blt] at hi
     rw [show Nat.ble (m.length + 1) (m.length + 1) = true from Nat.ble_eq ▸ Nat.le_refl _] at hi
     cases hi
    simp only [upE, h2, cond_false]
   ·intro p hp
    simp [lk, ix] at hp
    subst hp
    trivial
   ·intro x hx
    simp only [lk, List.map_nil, List.nil_append, ix, denP, List.append_nil, It.den, tC, List.mem_singleton] at hx
    subst hx
    simp only [hb]
    rw [heap_alloc_new, map_all (SV.denC_congr fun i hi => (hE i hi).symm) hl]
   ·intro x hx
    simp only [lk, List.map_nil, List.nil_append, ix, denP, List.append_nil, It.den, tC, List.mem_singleton] at hx
    subst hx
    right
    simp only [hb]
    exact Nat.le_refl _
  have purM : ∀ x : Option SV, (match x with
    | some v => some (((⟨v, [], [], [], [], []⟩ : Rs), ({ tk0 with r := fun E w => (execOp (fun x => (ρ x).den E) o).run P w } : Tk), ({ tk0 with r := fun E w => .ok (.value (v.den E)) w } : Tk)) : Rs × Tk × Tk)
    | none => none) = some (rs, a, b) → inM m (rs.R ++ rs.W.map Prod.fst) = true ∧ LS S C (fun E => execOp (fun x => (ρ x).den E) o) (lk m (rs.R ++ rs.W.map Prod.fst)) (newAt m.length rs.N.length) rs.v (lk m rs.R ++ (rs.W ++ ix m.length rs.N)) := fun x hx => by
   cases x with
   | none => cases hx
   | some v =>
    simp only [Option.some.injEq, Prod.mk.injEq] at hx
    obtain ⟨h1, rfl, rfl⟩ := hx
    exact pureCase v h1 (congrArg Tk.r e)
  have allocM : ∀ x : Option (List SV × TypeId × SV), (match x with
    | some (l, t, v) => if l.all (SV.alC (isLt m.length)) then some (((⟨v, [], [], [tC l t], [], []⟩ : Rs), ({ tk0 with r := fun E w => (execOp (fun x => (ρ x).den E) o).run P w } : Tk), ({ tk0 with r := fun E w => .ok (.value (v.den (upE E m.length w.heap.size))) (w.alloc (.cells (l.map (SV.denC E)).toArray t (0, 0))) } : Tk)) : Rs × Tk × Tk) else none
    | none => none) = some (rs, a, b) → inM m (rs.R ++ rs.W.map Prod.fst) = true ∧ LS S C (fun E => execOp (fun x => (ρ x).den E) o) (lk m (rs.R ++ rs.W.map Prod.fst)) (newAt m.length rs.N.length) rs.v (lk m rs.R ++ (rs.W ++ ix m.length rs.N)) := fun x hx => by
   rcases x with _ | ⟨l, t, v⟩
   ·cases hx
   ·simp only at hx
    split at hx
    ·rename_i hl
     simp only [Option.some.injEq, Prod.mk.injEq] at hx
     obtain ⟨h1, rfl, rfl⟩ := hx
     exact allocCase l t v hl h1 (congrArg Tk.r e)
    ·cases hx
  split at h
  ·-- load
   rename_i t x hop
   split at h
   ·rename_i it ag hk hit hag
    split at h
    ·rename_i hk0
     have hx := fun E => den1 hk E
     have hq : ∀ (E : Nat → Ent) w, (execOp (fun x => (ρ x).den E) o).run P w = (semV (Instr.loadAt t (.pointer (some ⟨(E (ρ x).b).g, (ρ x).o, none⟩)))).run P w := fun E w => by
      rw [← hx E]
      simp only [execOp, hop]
      rfl
     split at h
     ·split at h
      ·rename_i hle
       simp only [Option.some.injEq, Prod.mk.injEq] at h
       obtain ⟨rfl, rfl, rfl⟩ := h
       refine ⟨by simpa using inM1 hit, fun E w hL _ T hok => ?_⟩
       simp only [List.map_nil, List.append_nil, lk, List.map_cons, getD_some hit, denP, it0 hk0, ix] at T hok ⊢
       have hc := there1 T
       have hle := Nat.le_of_ble_eq_true hle
       rw [hq, load_row (cs := ((it.l.drop (ρ x).o).take (sizeT P t)).map (SV.denC E)) hag (by simp; omega) (info_some hag) (fun j v hv => by
        have hj := (List.getElem?_eq_some_iff.1 hv).1
        simp only [List.length_map, List.length_take, List.length_drop] at hj
        rw [cell_at hc, ← hv, List.getElem?_map, List.getElem?_map, List.getElem?_take_of_lt (by omega), List.getElem?_drop])]
       exact ⟨E, fun _ _ => rfl, hok, rfl, OkT.refl T⟩
      ·cases h
     ·split at h
      ·rename_i s hs
       split at h
       ·rename_i hC
        simp only [Option.some.injEq, Prod.mk.injEq] at h
        obtain ⟨rfl, rfl, rfl⟩ := h
        refine ⟨by simpa using inM1 hit, fun E w hL _ T hok => ?_⟩
        simp only [List.map_nil, List.append_nil, lk, List.map_cons, getD_some hit, denP, it0 hk0, ix] at T hok ⊢
        have hc := there1 T
        rw [hq, load_one hag (v := s.denC E) (by rw [cell_at hc, List.getElem?_map, hs]; rfl)]
        exact ⟨E, fun _ _ => rfl, hok, ((SV.den_C hC E).1).symm, OkT.refl T⟩
       ·cases h
      ·cases h
    ·cases h
   ·cases h
  ·-- store
   rename_i t x y hop
   split at h
   ·rename_i it hk hit
    split at h
    ·rename_i hk0
     simp only at h
     split at h
     ·rename_i hc
      simp only [Bool.and_eq_true, nbeq] at hc
      obtain ⟨⟨⟨⟨h1, h2⟩, h3⟩, h4⟩, h5⟩ := hc
      simp only [Option.some.injEq, Prod.mk.injEq] at h
      obtain ⟨rfl, rfl, rfl⟩ := h
      refine ⟨by simpa using inM1 hit, fun E w hL _ T hok => ?_⟩
      simp only [List.map_nil, List.nil_append, lk, List.map_cons, getD_some hit, denP, it0 hk0, ix, List.append_nil] at T hok ⊢
      have hg := there1 T
      have hq : (execOp (fun x => (ρ x).den E) o).run P w = (semU (Instr.storeAt t (.pointer (some ⟨(E (ρ x).b).g, (ρ x).o, none⟩)) ((ρ y).den E))).run P w := by
       rw [← den1 hk E]
       simp only [execOp, hop]
       rfl
      have h3 := Nat.le_of_ble_eq_true h3
      rw [hq, store_run (vs := (cellsS (ρ y)).map (SV.denC E)) hg (cellsS_den h4 E) (by simpa using h1) h2 (by simpa using h3) (fun u hu => by
       obtain ⟨s, hs, rfl⟩ := List.mem_map.1 hu
       exact one_den (List.all_eq_true.1 h4 s hs) E)]
      refine ⟨E, fun _ _ => rfl, by intro p hp; simp at hp; subst hp; trivial, rfl, ⟨grw_setCells _ _ _ _, ?_, by simp [It.den, tC], ?_⟩⟩
      ·intro z hz
       simp only [It.den, tC, List.mem_singleton] at hz
       subst hz
       simp only
       rw [heap_setCells _ _ _ _ _ _ hg, setAll_eq _ _ _ (by simpa using h3), layS_den]
      ·intro z hz
       simp only [It.den, tC, List.mem_singleton] at hz
       subst hz
       exact .inl (by simp)
     ·cases h
    ·cases h
   ·cases h
  ·exact allocM _ h
  ·exact allocM _ h
  ·exact allocM _ h
  ·exact allocM _ h
  ·exact purM _ h
def setsM : List It → List (Nat × It) → List It
 | m, [] => m
 | m, p :: W => setsM (m.set p.1 p.2) W
def gapM : List It → List Nat → List It
 | m, [] => m
 | m, i :: l => gapM (m.set i gap) l
theorem setsM_len : ∀ (W : List (Nat × It)) (m : List It), (setsM m W).length = m.length
 | [], _ => rfl
 | p :: W, m => by simp only [setsM, setsM_len W, List.length_set]
theorem gapM_len : ∀ (l : List Nat) (m : List It), (gapM m l).length = m.length
 | [], _ => rfl
 | i :: l, m => by simp only [gapM, gapM_len l, List.length_set]
theorem setsM_get : ∀ (W : List (Nat × It)) (m : List It) (j : Nat), (∀ p ∈ W, p.1 ≠ j) → (setsM m W)[j]? = m[j]?
 | [], _, _, _ => rfl
 | p :: W, m, j, h => by
  simp only [setsM]
  rw [setsM_get W _ j fun q hq => h q (by simp [hq]), List.getElem?_set_ne (h p (by simp))]
theorem setsM_at : ∀ (W : List (Nat × It)) (m : List It), noTw (W.map Prod.fst) = true → (∀ p ∈ W, p.1 < m.length) → ∀ p ∈ W, (setsM m W)[p.1]? = some p.2
 | q :: W, m, h, hl, p, hp => by
  simp only [List.map_cons, noTw, Bool.and_eq_true, List.all_eq_true] at h
  simp only [setsM]
  rcases List.mem_cons.1 hp with rfl | hp
  ·rw [setsM_get W _ _ fun r hr e => by
    have := h.1 r.1 (List.mem_map_of_mem hr)
    simp [e, Nat.beq_refl] at this]
   simp [hl p (by simp)]
  ·exact setsM_at W _ h.2 (fun r hr => by simpa using hl r (by simp [hr])) p hp
theorem gapM_get : ∀ (l : List Nat) (m : List It) (j : Nat), j ∉ l → (gapM m l)[j]? = m[j]?
 | [], _, _, _ => rfl
 | i :: l, m, j, h => by
  simp only [List.mem_cons, not_or] at h
  simp only [gapM]
  rw [gapM_get l _ j h.2, List.getElem?_set_ne (fun e => h.1 e.symm)]
theorem gapM_at : ∀ (l : List Nat) (m : List It) (j : Nat), j ∈ l → j < m.length → (gapM m l)[j]? = some gap
 | i :: l, m, j, h, hl => by
  simp only [gapM]
  by_cases hj : j ∈ l
  ·exact gapM_at l _ j hj (by simpa using hl)
  ·rcases List.mem_cons.1 h with rfl | h
   ·rw [gapM_get l _ j hj]
    simp [hl]
   ·exact absurd h hj
theorem dens_part (E : Nat → Ent) : ∀ (l : List Nat) (m : List It), inM m l = true → (dens E 0 m).Perm (denP E (lk m l) ++ dens E 0 (gapM m l))
 | [], _, _ => by simp [lk, denP, gapM]
 | i :: l, m, h => by
  simp only [inM, List.all_cons, noTw, Bool.and_eq_true, List.all_eq_true] at h
  obtain ⟨⟨h1, h2⟩, h3, h4⟩ := h
  have hi : i < m.length := by simpa [isLt, Nat.blt_eq] using h1
  have hne : ∀ j ∈ l, i ≠ j := fun j hj e => by
   have := h3 j hj
   simp [e, Nat.beq_refl] at this
  have hg : m[i]? = some m[i] := List.getElem?_eq_getElem hi
  have ih := dens_part E l (m.set i gap) (by
   simp only [inM, Bool.and_eq_true, List.all_eq_true]
   exact ⟨fun j hj => by simpa [isLt, Nat.blt_eq] using h2 j hj, h4⟩)
  have e : lk (m.set i gap) l = lk m l := List.map_congr_left fun j hj => by rw [List.getElem?_set_ne (hne j hj)]
  rw [e] at ih
  have h0 := dens_get E m 0 i _ hg
  rw [Nat.zero_add] at h0
  simp only [lk, List.map_cons, denP, gapM, hg, Option.getD_some, List.append_assoc]
  exact h0.trans (List.Perm.append_left _ ih)
theorem dens_congr {E E' : Nat → Ent} {p : Nat → Bool} (h : ∀ i, p i = true → E i = E' i) : ∀ (m : List It) (k : Nat), (∀ i, k ≤ i → i < k + m.length → E i = E' i) → m.all (It.al p) = true → dens E k m = dens E' k m
 | [], _, _, _ => rfl
 | x :: m, k, hk, hb => by
  simp only [List.all_cons, Bool.and_eq_true] at hb
  simp only [dens]
  rw [x.den_congr h (hk k (Nat.le_refl _) (by simp)) hb.1, dens_congr h m (k + 1) (fun i h1 h2 => hk i (by omega) (by simp at h2 ⊢; omega)) hb.2]
theorem dens_ix (E : Nat → Ent) : ∀ (N : List It) (k : Nat), dens E k N = denP E (ix k N)
 | [], _ => rfl
 | x :: N, k => by simp only [dens, ix, denP, dens_ix E N (k + 1)]
theorem all_set {f : It → Bool} {m : List It} {i : Nat} {x : It} (h : m.all f = true) (hx : f x = true) : (m.set i x).all f = true :=
 List.all_eq_true.2 fun y hy => (List.mem_or_eq_of_mem_set hy).elim (List.all_eq_true.1 h y) fun e => e ▸ hx
theorem all_gapM {f : It → Bool} (hg : f gap = true) : ∀ (l : List Nat) {m : List It}, m.all f = true → (gapM m l).all f = true
 | [], _, h => h
 | _ :: l, _, h => all_gapM hg l (all_set h hg)
theorem all_setsM {f : It → Bool} : ∀ (W : List (Nat × It)) {m : List It}, m.all f = true → W.all (fun p => f p.2) = true → (setsM m W).all f = true
 | [], _, h, _ => h
 | p :: W, _, h, hw => by
  simp only [List.all_cons, Bool.and_eq_true] at hw
  exact all_setsM W (all_set h hw.1) hw.2
theorem gapM_sets (W : List (Nat × It)) (R : List Nat) (m : List It) : gapM (setsM m W) (R ++ W.map Prod.fst) = gapM m (R ++ W.map Prod.fst) := by
 apply List.ext_getElem?
 intro j
 by_cases hj : j ∈ R ++ W.map Prod.fst
 ·by_cases hl : j < m.length
  ·rw [gapM_at _ _ _ hj (by rw [setsM_len]; exact hl), gapM_at _ _ _ hj hl]
  ·rw [List.getElem?_eq_none (by rw [gapM_len, setsM_len]; omega), List.getElem?_eq_none (by rw [gapM_len]; omega)]
 ·rw [gapM_get _ _ _ hj, gapM_get _ _ _ hj, setsM_get _ _ _ fun p hp e => hj (List.mem_append_right _ (List.mem_map.2 ⟨p, hp, e⟩))]
theorem lk_sets {m : List It} {R : List Nat} {W : List (Nat × It)} (h : inM m (R ++ W.map Prod.fst) = true) : lk (setsM m W) (R ++ W.map Prod.fst) = lk m R ++ W := by
 simp only [inM, Bool.and_eq_true] at h
 obtain ⟨h1, h2⟩ := h
 obtain ⟨h3, h4⟩ := noTw_append h2
 rw [lk_app]
 congr 1
 ·exact List.map_congr_left fun i hi => by rw [setsM_get _ _ _ fun p hp e => h4 i hi p.1 (List.mem_map_of_mem hp) e.symm]
 ·have hl : ∀ p ∈ W, p.1 < m.length := fun p hp => by
   have := List.all_eq_true.1 h1 p.1 (List.mem_append_right _ (List.mem_map_of_mem hp))
   simpa [isLt, Nat.blt_eq] using this
  unfold lk
  rw [List.map_map]
  refine (List.map_congr_left fun p hp => ?_).trans (List.map_id W)
  simp only [Function.comp_def, setsM_at W m h3 hl p hp, Option.getD_some, id]
theorem ls_all {P : Program} {S : Seat P} {c : Ctx} {q : (Nat → Ent) → Sem Next} {m : List It} {R : List Nat} {W : List (Nat × It)} {N : List It} {v : SV} (hin : inM m (R ++ W.map Prod.fst) = true)
  (h : LS S (fun w => Mem S c [] w) q (lk m (R ++ W.map Prod.fst)) (newAt m.length N.length) v (lk m R ++ (W ++ ix m.length N))) {E : Nat → Ent} {w : World} (M : Mem S c (dens E 0 m) w) (hok : oks E m) (hal : m.all (It.al (isLt m.length)) = true) :
  Fin P ((q E).run P w) fun r w' => ∃ E' : Nat → Ent, (∀ i, i < m.length → E' i = E i) ∧ r = v.den E' ∧ Mem S c (dens E' 0 (setsM m W ++ N)) w' ∧ oks E' (setsM m W ++ N) := by
 have p := dens_part E _ _ hin
 have M1 := M.perm p
 have hin' := hin
 simp only [inM, Bool.and_eq_true, List.all_eq_true] at hin'
 have hlt : ∀ i ∈ R ++ W.map Prod.fst, i < m.length := fun i hi => by simpa [isLt, Nat.blt_eq] using hin'.1 i hi
 refine (h E w M.laid (fun w' hg => ?_) (M1.drop (List.sublist_append_left _ _)).there fun x hx => ?_).mono ?_
 ·refine ⟨M.old.trans hg fun x hx => ?_, by simp, by simp, by simp, M.lay, M.ne⟩
  obtain ⟨b, hb, rfl⟩ := List.mem_map.1 hx
  exact M1.ge b (List.mem_append_left _ hb)
 ·obtain ⟨i, hi, rfl⟩ := List.mem_map.1 hx
  have hl := hlt i hi
  simp only [List.getElem?_eq_getElem hl, Option.getD_some]
  exact hok i _ (List.getElem?_eq_getElem hl)
 ·rintro r w' ⟨E', hE, hok', hr, hT⟩
  have hE' : ∀ i, i < m.length → E' i = E i := fun i hi => hE i (by
   have : Nat.ble m.length i = false := by
    cases e : Nat.ble m.length i with
    | false => rfl
    | true => exact absurd (Nat.le_of_ble_eq_true e) (by omega)
   simp [newAt, this])
  refine ⟨E', hE', hr, ?_, ?_⟩
  ·have M2 := M1.step hT
   refine M2.perm ?_
   rw [dens_app, setsM_len, Nat.zero_add, dens_ix E' N m.length]
   have p2 := dens_part E' (R ++ W.map Prod.fst) (setsM m W) (by simpa only [inM, setsM_len] using hin)
   rw [lk_sets hin, gapM_sets] at p2
   have e : dens E' 0 (gapM m (R ++ W.map Prod.fst)) = dens E 0 (gapM m (R ++ W.map Prod.fst)) := dens_congr (p := isLt m.length) (fun i hi => hE' i (by simpa [isLt, Nat.blt_eq] using hi)) _ _ (fun i _ hi => hE' i (by rw [gapM_len] at hi; omega)) (all_gapM rfl _ hal)
   rw [e] at p2
   rw [denP_app, denP_app]
   rw [denP_app] at p2
   refine List.Perm.trans ?_ (p2.symm.append_right _)
   simp only [List.append_assoc]
   exact List.Perm.append_left _ (List.Perm.append_left _ List.perm_append_comm)
  ·intro i x hx
   by_cases hi : i < m.length
   ·rw [List.getElem?_append_left (by rw [setsM_len]; exact hi)] at hx
    by_cases hw : i ∈ W.map Prod.fst
    ·obtain ⟨q, hq, rfl⟩ := List.mem_map.1 hw
     rw [setsM_at W m (noTw_append hin'.2).1 (fun r hr => hlt _ (List.mem_append_right _ (List.mem_map_of_mem hr))) q hq] at hx
     cases hx
     exact hok' q (by simp [hq])
    ·rw [setsM_get _ _ _ fun q hq e => hw (List.mem_map.2 ⟨q, hq, e⟩)] at hx
     rw [It.ok_congr (hE' i hi)]
     exact hok i x hx
   ·rw [List.getElem?_append_right (by rw [setsM_len]; omega), setsM_len] at hx
    have key : ∀ (N : List It) (k j : Nat) (x : It), N[j]? = some x → (k + j, x) ∈ ix k N := by
     intro N
     induction N with
     | nil => intro k j x h; simp at h
     | cons y N ih =>
      intro k j x h
      cases j with
      | zero => simp at h; subst h; simp [ix]
      | succ j =>
       simp only [ix, List.mem_cons]
       right
       have := ih (k + 1) j x (by simpa using h)
       rwa [show k + 1 + j = k + (j + 1) by omega] at this
    have := hok' _ (List.mem_append_right _ (List.mem_append_right _ (key N m.length _ x hx)))
    simpa only [show m.length + (i - m.length) = i by omega] using this
end Go.Proofs.YtbdgncndhnnjoaaGreatDoor
