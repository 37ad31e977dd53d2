/- Part 6 of the walks and facts behind ipTells_holds. -/
import Derived.Test.YtndonmdgplojnaaGreatDoorTe5
namespace Go.Proofs.YtndonmdgplojnaaGreatDoor
open Go.RowKit
theorem info22 : InfoIs Tryz.prog 22 (.int .u64 0) := infoIs (b := 8) (by kernel_rfl) (by kernel_rfl) (by kernel_rfl) (by decide)
theorem vS_at (l : List ByteArray) (i : Nat) (h : i < l.length) : (vS l)[i]? = some (.string (tg l i)) := by
 unfold vS
 rw [List.getElem?_map, tg_at l i h]
 rfl
def v64 (l : List Int) : List Value := l.map fun x => .int .u64 x
theorem v64_at (l : List Int) (i : Nat) (h : i < l.length) : (v64 l)[i]? = some (.int .u64 (tgi l i)) := by
 unfold v64 tgi
 rw [List.getElem?_map, List.getElem?_eq_getElem h, List.getD_eq_getElem?_getD, List.getElem?_eq_getElem h]
 rfl
theorem len_app1 (l : List Int) (x : Int) : (l ++ [x]).length = l.length + 1 := by simp
theorem v64_len (l : List Int) : (v64 l).length = l.length := by simp [v64]
theorem v64_app (l : List Int) (x : Int) : v64 (l ++ [x]) = v64 l ++ [.int .u64 x] := by simp [v64]
def gd (x : ByteArray) : Int := un (cv .u64 (max (dgs 10 x) 0)) 255
def g4 (l : List ByteArray) : Nat → Int
 | 0 => 0
 | j + 1 => ua (sl (g4 l j) 8) (gd (tg l j))
def wd (l : List ByteArray) : Nat → Nat
 | 0 => 0
 | j + 1 => if tg l j = (⟨#[]⟩ : ByteArray) then wd l j else wd l j + 1
theorem wd_le (l : List ByteArray) (j : Nat) : wd l j ≤ j := by
 induction j with
 | zero => exact Nat.le_refl 0
 | succ j ih =>
  rw [wd]
  split <;> omega
def hdx (x : ByteArray) : Int := cv .u64 (max (dgs 16 x) 0)
def pq (l : List ByteArray) (wn : Nat) : Nat → List Int × Bool
 | 0 => ([], false)
 | j + 1 => if tg l j = (⟨#[]⟩ : ByteArray) then (if (pq l wn j).2 = true then pq l wn j else ((pq l wn j).1 ++ List.replicate (8 - wn) 0, true)) else ((pq l wn j).1 ++ [hdx (tg l j)], (pq l wn j).2)
theorem pq_le (l : List ByteArray) (wn : Nat) (j : Nat) : (pq l wn j).1.length ≤ 9 * j := by
 induction j with
 | zero => exact Nat.le_refl 0
 | succ j ih =>
  rw [pq]
  split
  ·split
   ·omega
   ·simp only [List.length_append, List.length_replicate]
    omega
  ·simp only [List.length_append, List.length_cons, List.length_nil]
   omega
def hl (p : List Int) : Nat → Int × Int
 | 0 => (0, 0)
 | i + 1 => if (i : Int) < 4 then (uo (hl p i).1 (sl (tgi p i) (48 - 16 * (i : Int)).toNat), (hl p i).2) else ((hl p i).1, uo (hl p i).2 (sl (tgi p i) (112 - 16 * (i : Int)).toNat))
theorem hl_a (p : List Int) (i : Nat) (h : (i : Int) < 4) : hl p (i + 1) = (uo (hl p i).1 (sl (tgi p i) (48 - 16 * (i : Int)).toNat), (hl p i).2) := if_pos h
theorem hl_b (p : List Int) (i : Nat) (h : ¬ (i : Int) < 4) : hl p (i + 1) = ((hl p i).1, uo (hl p i).2 (sl (tgi p i) (112 - 16 * (i : Int)).toNat)) := if_neg h
def TSn (c : Ctx) (L : List Blk) (W : World) (tv : Value) (l : List Int) : Prop := (l = [] ∧ tv = .slice none 0 0 ∧ Mem c L W) ∨ ∃ g cap Z, tv = .slice (some ⟨g, 0, none⟩) l.length cap ∧ SB Z cap (v64 l) ∧ Mem c (L ++ [⟨g, Z⟩]) W
def gV (l4 : List ByteArray) : Bool := if ((l4.length : Nat) : Int) = 4 then false else true
def gP (l6 : List ByteArray) : List Int := (pq l6 (wd l6 l6.length) l6.length).1
def gH (l4 l6 : List ByteArray) : Int := if ((l4.length : Nat) : Int) = 4 then 0 else (hl (gP l6) (min 8 (gP l6).length)).1
def gL (l4 l6 : List ByteArray) : Int := if ((l4.length : Nat) : Int) = 4 then g4 l4 4 else (hl (gP l6) (min 8 (gP l6).length)).2
set_option maxRecDepth 100000 in
set_option maxHeartbeats 4000000 in
set_option linter.unusedSimpArgs false in
theorem d_guessG (s : ByteArray) (hs : s.size ≤ 60) (l4 l6 : List ByteArray) (h4 : sqL 46 s = l4) (h6 : sqL 58 s = l6) (wn : Nat) (hwn : wd l6 l6.length = wn) (w : World) (hL : Laid w)  :
  Calls Tryz.prog 45 #[.string s] w fun r w' => r = .returned (.agg (av 3 (ls [.bool (gV l4), .int .u64 (gH l4 l6), .int .u64 (gL l4 l6)]))) ∧ Below w.heap.size w w' := by
 go_enter Tryz.func45, Tryz.ntmps45
 have M := Mem.start hL
 have hz4 : l4.length ≤ 61 := by rw [← h4]; have := (sq_le 46 s (s.size + 1)).2; unfold sqL; omega
 have hz6 : l6.length ≤ 61 := by rw [← h6]; have := (sq_le 58 s (s.size + 1)).2; unfold sqL; omega
 have hwn6 : wn ≤ 61 := by rw [← hwn]; have := wd_le l6 l6.length; omega
 refine sR ?_
 refine pN M 2 (.cells (av 3 (ls [.bool false, .int .u64 0, .int .u64 0])) 24) fun g1 u1 M => ?_
 refine nT ?_
 refine sR ?_
 refine pV 15 (.string s) ?_
 refine pl_callL M (want_no rfl) (some 16) rfl 48 #[.string s, .int .u8 46] (fun g cap => .slice (some ⟨g, 0, none⟩) l4.length cap) (fun cap Z => SB Z cap (vS l4)) (fun _ => by kernel_rfl) (fun w M => h4 ▸ d_split s 46 (by omega) w M.laid) ?_
 intro gsa csa Zsa u2 hSa M
 refine pV 3 (.slice (some ⟨gsa, 0, none⟩) l4.length csa) ?_
 refine nT ?_
 refine wp_seq ?_
 refine sR ?_
 refine pV 17 (.slice (some ⟨gsa, 0, none⟩) l4.length csa) ?_
 refine pV 18 (.int .i64 ((l4.length : Nat) : Int)) ?_
 by_cases c0 : ((l4.length : Nat) : Int) = 4
 ·skip
  refine pH 19 (.bool true) (dTz (((l4.length : Nat) : Int) = 4) (c0)) ?_
  refine nT ?_
  refine wp_cond_true (by kernel_rfl) ?_
  refine sR ?_
  refine pV 20 (.agg (av 3 (ls [.bool false, .int .u64 0, .int .u64 0]))) ?_
  refine pN M 4 (.cells (av 3 (ls [.bool false, .int .u64 0, .int .u64 0])) 24) fun g2 u3 M => ?_
  refine pl_put M (want_no rfl) rfl 24 _ _ rfl 2 g2 0 (by kernel_rfl) 3 24 (ls [.bool false, .int .u64 0, .int .u64 0]) rfl 3 (ls [.bool false, .int .u64 0, .int .u64 0]) (ls [.bool false, .int .u64 0, .int .u64 0]) (by kernel_rfl) inz24 (by decide) (one_ls _ rfl) (fun j hj => by rw [if_pos (by omega), Nat.sub_zero]) fun u4 M => ?_
  refine nT ?_
  refine wp_seq ?_
  refine sR ?_
  refine pV 5 (.int .i64 0) ?_
  refine nT ?_
  refine wp_block ?_
  refine au_loop (fun j a w' => ∃ v1 : Nat → Value, a = ⟨#[.string s, undef, .pointer (some ⟨g1, 0, none⟩), .slice (some ⟨gsa, 0, none⟩) l4.length csa, .pointer (some ⟨g2, 0, none⟩), .int .i64 (j : Int), v1 6, undef, undef, undef, undef, undef, undef, undef, undef, .string s, .slice (some ⟨gsa, 0, none⟩) l4.length csa, .slice (some ⟨gsa, 0, none⟩) l4.length csa, .int .i64 ((l4.length : Nat) : Int), .bool true, .agg (av 3 (ls [.bool false, .int .u64 0, .int .u64 0])), v1 21, v1 22, v1 23, v1 24, v1 25, v1 26, v1 27, v1 28, v1 29, v1 30, v1 31, v1 32, v1 33, v1 34, v1 35, v1 36, v1 37, v1 38, undef, undef, undef, undef, undef, undef, undef, undef, undef, undef, undef, undef, undef, undef, undef, undef, undef, undef, undef, undef, undef, undef, undef, undef, undef, undef, undef, undef, undef, undef, undef, undef, undef, undef, undef, undef, undef, undef, undef, undef, undef, undef, undef, undef, undef, undef, undef, undef, undef, undef, undef, undef, undef, undef, undef, undef, undef, undef, undef, undef, undef, undef, undef, undef, undef, undef, undef, undef, undef, undef, undef, undef, undef, undef, undef, undef, undef, undef, undef, undef, undef, undef, undef, undef, undef, undef, undef, undef, undef], []⟩ ∧ Mem ⟨w, []⟩ [⟨g1, .cells (av 3 (ls [.bool false, .int .u64 0, .int .u64 0])) 24⟩, ⟨gsa, Zsa⟩, ⟨g2, .cells (av 3 (ls [.bool false, .int .u64 0, .int .u64 (g4 l4 j)])) 24⟩] w') 4 ⟨fun k_ => ([undef, undef, undef, undef, undef, undef, undef, undef, undef, undef, undef, undef, undef, undef, undef, undef, undef, undef, undef, undef, undef, undef, undef, undef, undef, undef, undef, undef, undef, undef, undef, undef, undef] : List Value).getD (k_ - 6) undef, by kernel_rfl, M⟩ ?_ ?_
  ·intro j a u0 hj hI
   obtain ⟨v1, rfl, M⟩ := hI
   refine wp_seq ?_
   refine sR ?_
   refine pV 21 (.int .i64 (j : Int)) ?_
   refine pH 22 (.bool true) (dTz ((j : Int) < 4) (by omega)) ?_
   refine nT ?_
   refine wp_cond_true (by kernel_rfl) ?_
   refine wp_skip ?_
   refine au_then ?_
   refine wp_seq ?_
   refine wp_block ?_
   refine sR ?_
   refine pV 25 (.slice (some ⟨gsa, 0, none⟩) l4.length csa) ?_
   refine pV 26 (.int .i64 (j : Int)) ?_
   refine pH 27 (.pointer (some ⟨gsa, j, none⟩)) (run_ix0 72 9 Tryz.underlying72 inz9 _ _ rfl gsa l4.length csa (by kernel_rfl) .i64 j (by kernel_rfl) (by omega)) ?_
   refine pEz M 28 gsa j (.string (tg l4 j)) (fun w M => hSa.cell (M.get 1 rfl) (vS_at _ _ (by omega))) ?_
   refine pC M 29 49 #[.string (tg l4 j), .int .i64 10] (.int .i64 (dgs 10 (tg l4 j))) (fun w M => d_digits10 (tg l4 j) w M.laid) fun u5 M => ?_
   refine pV 6 (.int .i64 (dgs 10 (tg l4 j))) ?_
   refine nT ?_
   refine rg_lit ?_
   refine pV 30 (.pointer (some ⟨g2, 2, none⟩)) ?_
   refine pEz M 31 g2 2 (.int .u64 (g4 l4 j)) (fun w M => M.cell 2 rfl (by decide) rfl) ?_
   refine pV 32 (.int .u64 (sl (g4 l4 j) 8)) ?_
   refine pV 33 (.int .i64 (dgs 10 (tg l4 j))) ?_
   refine pH 34 (.int .i64 (max (dgs 10 (tg l4 j)) 0)) (fun w => Eq.trans (b := .ok (.value (.int .i64 (if (0 : Int) > (dgs 10 (tg l4 j)) then 0 else (dgs 10 (tg l4 j))))) w) (by kernel_rfl) (by rw [if_max])) ?_
   refine pV 35 (.int .u64 (cv .u64 (max (dgs 10 (tg l4 j)) 0))) ?_
   refine pV 36 (.int .u64 (un (cv .u64 (max (dgs 10 (tg l4 j)) 0)) 255)) ?_
   refine pV 37 (.int .u64 (ua (sl (g4 l4 j) 8) (un (cv .u64 (max (dgs 10 (tg l4 j)) 0)) 255))) ?_
   refine pV 38 (.pointer (some ⟨g2, 2, none⟩)) ?_
   refine pP M 2 rfl 2 (.int .u64 (ua (sl (g4 l4 j) 8) (un (cv .u64 (max (dgs 10 (tg l4 j)) 0)) 255))) (ls [.bool false, .int .u64 0, .int .u64 (ua (sl (g4 l4 j) 8) (un (cv .u64 (max (dgs 10 (tg l4 j)) 0)) 255))]) (by decide) (put_ls _ 2 _ _ rfl) fun u6 M => ?_
   refine pl_nil ?_
   refine au_block ?_
   refine au_then ?_
   refine rg_lit ?_
   refine pV 23 (.int .i64 (j : Int)) ?_
   refine pH 24 (.int .i64 ((j + 1 : Nat) : Int)) (iV ((j : Int) + 1) (by omega) (by omega) (by omega)) ?_
   refine pV 5 (.int .i64 ((j + 1 : Nat) : Int)) ?_
   refine nT ?_
   exact ⟨fun k_ => ([.int .i64 (dgs 10 (tg l4 j)), undef, undef, undef, undef, undef, undef, undef, undef, undef, undef, undef, undef, undef, undef, .int .i64 (j : Int), .bool true, .int .i64 (j : Int), .int .i64 ((j + 1 : Nat) : Int), .slice (some ⟨gsa, 0, none⟩) l4.length csa, .int .i64 (j : Int), .pointer (some ⟨gsa, j, none⟩), .string (tg l4 j), .int .i64 (dgs 10 (tg l4 j)), .pointer (some ⟨g2, 2, none⟩), .int .u64 (g4 l4 j), .int .u64 (sl (g4 l4 j) 8), .int .i64 (dgs 10 (tg l4 j)), .int .i64 (max (dgs 10 (tg l4 j)) 0), .int .u64 (cv .u64 (max (dgs 10 (tg l4 j)) 0)), .int .u64 (un (cv .u64 (max (dgs 10 (tg l4 j)) 0)) 255), .int .u64 (ua (sl (g4 l4 j) 8) (un (cv .u64 (max (dgs 10 (tg l4 j)) 0)) 255)), .pointer (some ⟨g2, 2, none⟩)] : List Value).getD (k_ - 6) undef, by kernel_rfl, M⟩
  ·intro a u0 hI
   obtain ⟨v1, rfl, M⟩ := hI
   refine wp_seq ?_
   refine sR ?_
   refine pV 21 (.int .i64 (4 : Int)) ?_
   refine pH 22 (.bool false) (dF ((4 : Int) < 4) (by omega)) ?_
   refine nT ?_
   refine wp_cond_false (by kernel_rfl) ?_
   refine wp_exit ?_
   refine au_then_exit ?_
   refine au_then_exit ?_
   refine au_block_exit ?_
   refine au_then ?_
   refine sR ?_
   refine pAz M 39 2 3 (ls [.bool false, .int .u64 0, .int .u64 (g4 l4 4)]) ?_
   refine pl_put M (want_no rfl) rfl 24 _ _ rfl 0 g1 0 (by kernel_rfl) 3 24 (ls [.bool false, .int .u64 0, .int .u64 0]) rfl 3 (ls [.bool false, .int .u64 0, .int .u64 (g4 l4 4)]) (ls [.bool false, .int .u64 0, .int .u64 (g4 l4 4)]) (by kernel_rfl) inz24 (by decide) (one_ls _ rfl) (fun j hj => by rw [if_pos (by omega), Nat.sub_zero]) fun u5 M => ?_
   refine nT ?_
   refine wp_ret ?_
   refine au_then_ret ?_
   have e0 : gV l4 = false := if_pos c0
   have e1 : (gH l4 l6) = 0 := by unfold gH; exact if_pos c0
   have e2 : (gL l4 l6) = (g4 l4 4) := by unfold gL; exact if_pos c0
   exact bodyPost_ret (v := .agg (av 3 (ls [.bool false, .int .u64 0, .int .u64 (g4 l4 4)]))) (results_cell_row Tryz.results45 _ _ g1 24 (av 3 (ls [.bool false, .int .u64 0, .int .u64 (g4 l4 4)])) (0, 0) _ (by kernel_rfl) (M.get 0 rfl) Tryz.underlying24 rfl (by rw [av_size]; exact inz24)) (by kernel_rfl) ⟨by rw [e0, e1, e2], below_grown M.old⟩
 ·skip
  refine pH 19 (.bool false) (dF (((l4.length : Nat) : Int) = 4) (c0)) ?_
  refine nT ?_
  refine wp_cond_false (by kernel_rfl) ?_
  refine wp_skip ?_
  refine au_then ?_
  refine sR ?_
  refine pV 40 (.agg (av 3 (ls [.bool true, .int .u64 0, .int .u64 0]))) ?_
  refine pN M 7 (.cells (av 3 (ls [.bool false, .int .u64 0, .int .u64 0])) 24) fun g2 u3 M => ?_
  refine pl_put M (want_no rfl) rfl 24 _ _ rfl 2 g2 0 (by kernel_rfl) 3 24 (ls [.bool false, .int .u64 0, .int .u64 0]) rfl 3 (ls [.bool true, .int .u64 0, .int .u64 0]) (ls [.bool true, .int .u64 0, .int .u64 0]) (by kernel_rfl) inz24 (by decide) (one_ls _ rfl) (fun j hj => by rw [if_pos (by omega), Nat.sub_zero]) fun u4 M => ?_
  refine nT ?_
  refine sR ?_
  refine pV 41 (.string s) ?_
  refine pl_callL M (want_no rfl) (some 42) rfl 48 #[.string s, .int .u8 58] (fun g cap => .slice (some ⟨g, 0, none⟩) l6.length cap) (fun cap Z => SB Z cap (vS l6)) (fun _ => by kernel_rfl) (fun w M => h6 ▸ d_split s 58 (by omega) w M.laid) ?_
  intro gsb csb Zsb u5 hSb M
  refine pV 3 (.slice (some ⟨gsb, 0, none⟩) l6.length csb) ?_
  refine nT ?_
  refine sR ?_
  refine pV 8 (.int .i64 0) ?_
  refine nT ?_
  refine wp_seq ?_
  refine sR ?_
  refine pV 9 (.int .i64 0) ?_
  refine nT ?_
  refine wp_block ?_
  refine au_loop (fun j a w' => ∃ v1 : Nat → Value, a = ⟨#[.string s, undef, .pointer (some ⟨g1, 0, none⟩), .slice (some ⟨gsb, 0, none⟩) l6.length csb, undef, undef, undef, .pointer (some ⟨g2, 0, none⟩), .int .i64 ((wd l6 j : Nat) : Int), .int .i64 (j : Int), undef, undef, undef, undef, undef, .string s, .slice (some ⟨gsa, 0, none⟩) l4.length csa, .slice (some ⟨gsa, 0, none⟩) l4.length csa, .int .i64 ((l4.length : Nat) : Int), .bool false, undef, undef, undef, undef, undef, undef, undef, undef, undef, undef, undef, undef, undef, undef, undef, undef, undef, undef, undef, undef, .agg (av 3 (ls [.bool true, .int .u64 0, .int .u64 0])), .string s, .slice (some ⟨gsb, 0, none⟩) l6.length csb, v1 43, v1 44, v1 45, v1 46, v1 47, v1 48, v1 49, v1 50, v1 51, v1 52, v1 53, v1 54, v1 55, undef, undef, undef, undef, undef, undef, undef, undef, undef, undef, undef, undef, undef, undef, undef, undef, undef, undef, undef, undef, undef, undef, undef, undef, undef, undef, undef, undef, undef, undef, undef, undef, undef, undef, undef, undef, undef, undef, undef, undef, undef, undef, undef, undef, undef, undef, undef, undef, undef, undef, undef, undef, undef, undef, undef, undef, undef, undef, undef, undef, undef, undef, undef, undef, undef, undef, undef, undef, undef, undef, undef, undef], []⟩ ∧ Mem ⟨w, []⟩ [⟨g1, .cells (av 3 (ls [.bool false, .int .u64 0, .int .u64 0])) 24⟩, ⟨gsa, Zsa⟩, ⟨g2, .cells (av 3 (ls [.bool true, .int .u64 0, .int .u64 0])) 24⟩, ⟨gsb, Zsb⟩] w') l6.length ⟨fun k_ => ([undef, undef, undef, undef, undef, undef, undef, undef, undef, undef, undef, undef, undef] : List Value).getD (k_ - 43) undef, by kernel_rfl, M⟩ ?_ ?_
  ·intro j a u0 hj hI
   obtain ⟨v1, rfl, M⟩ := hI
   have hwj := wd_le l6 j
   refine wp_seq ?_
   refine sR ?_
   refine pV 43 (.int .i64 (j : Int)) ?_
   refine pV 44 (.slice (some ⟨gsb, 0, none⟩) l6.length csb) ?_
   refine pV 45 (.int .i64 ((l6.length : Nat) : Int)) ?_
   refine pH 46 (.bool true) (dTz ((j : Int) < ((l6.length : Nat) : Int)) (by omega)) ?_
   refine nT ?_
   refine wp_cond_true (by kernel_rfl) ?_
   refine wp_skip ?_
   refine au_then ?_
   refine wp_seq ?_
   refine wp_block ?_
   refine sR ?_
   refine pV 49 (.slice (some ⟨gsb, 0, none⟩) l6.length csb) ?_
   refine pV 50 (.int .i64 (j : Int)) ?_
   refine pH 51 (.pointer (some ⟨gsb, j, none⟩)) (run_ix0 72 9 Tryz.underlying72 inz9 _ _ rfl gsb l6.length csb (by kernel_rfl) .i64 j (by kernel_rfl) (by omega)) ?_
   refine pEz M 52 gsb j (.string (tg l6 j)) (fun w M => hSb.cell (M.get 3 rfl) (vS_at _ _ (by omega))) ?_
   by_cases c1 : (tg l6 j) = (⟨#[]⟩ : ByteArray)
   ·skip
    refine pH 53 (.bool false) (fun w => Eq.trans (b := .ok (.value (.bool (!((tg l6 j).toList == (⟨#[]⟩ : ByteArray).toList)))) w) (by kernel_rfl) (by rw [seq_pos c1]; rfl)) ?_
    refine nT ?_
    refine wp_cond_false (by kernel_rfl) ?_
    refine wp_skip ?_
    refine au_block ?_
    refine au_then ?_
    refine rg_lit ?_
    refine pV 47 (.int .i64 (j : Int)) ?_
    refine pH 48 (.int .i64 ((j + 1 : Nat) : Int)) (iV ((j : Int) + 1) (by omega) (by omega) (by omega)) ?_
    refine pV 9 (.int .i64 ((j + 1 : Nat) : Int)) ?_
    refine nT ?_
    exact ⟨fun k_ => ([.int .i64 (j : Int), .slice (some ⟨gsb, 0, none⟩) l6.length csb, .int .i64 ((l6.length : Nat) : Int), .bool true, .int .i64 (j : Int), .int .i64 ((j + 1 : Nat) : Int), .slice (some ⟨gsb, 0, none⟩) l6.length csb, .int .i64 (j : Int), .pointer (some ⟨gsb, j, none⟩), .string (tg l6 j), .bool false, v1 54, v1 55] : List Value).getD (k_ - 43) undef, by rw [show wd l6 (j + 1) = wd l6 j from if_pos c1]; kernel_rfl, M⟩
   ·skip
    refine pH 53 (.bool true) (fun w => Eq.trans (b := .ok (.value (.bool (!((tg l6 j).toList == (⟨#[]⟩ : ByteArray).toList)))) w) (by kernel_rfl) (by rw [seq_neg c1]; rfl)) ?_
    refine nT ?_
    refine wp_cond_true (by kernel_rfl) ?_
    refine rg_lit ?_
    refine pV 54 (.int .i64 ((wd l6 j : Nat) : Int)) ?_
    refine pH 55 (.int .i64 ((wd l6 j + 1 : Nat) : Int)) (iV (((wd l6 j : Nat) : Int) + 1) (by omega) (by omega) (by omega)) ?_
    refine pV 8 (.int .i64 ((wd l6 j + 1 : Nat) : Int)) ?_
    refine pl_nil ?_
    refine au_block ?_
    refine au_then ?_
    refine rg_lit ?_
    refine pV 47 (.int .i64 (j : Int)) ?_
    refine pH 48 (.int .i64 ((j + 1 : Nat) : Int)) (iV ((j : Int) + 1) (by omega) (by omega) (by omega)) ?_
    refine pV 9 (.int .i64 ((j + 1 : Nat) : Int)) ?_
    refine nT ?_
    exact ⟨fun k_ => ([.int .i64 (j : Int), .slice (some ⟨gsb, 0, none⟩) l6.length csb, .int .i64 ((l6.length : Nat) : Int), .bool true, .int .i64 (j : Int), .int .i64 ((j + 1 : Nat) : Int), .slice (some ⟨gsb, 0, none⟩) l6.length csb, .int .i64 (j : Int), .pointer (some ⟨gsb, j, none⟩), .string (tg l6 j), .bool true, .int .i64 ((wd l6 j : Nat) : Int), .int .i64 ((wd l6 j + 1 : Nat) : Int)] : List Value).getD (k_ - 43) undef, by rw [show wd l6 (j + 1) = wd l6 j + 1 from if_neg c1]; kernel_rfl, M⟩
  ·intro a u0 hI
   obtain ⟨v1, rfl, M⟩ := hI
   refine wp_seq ?_
   refine sR ?_
   refine pV 43 (.int .i64 ((l6.length : Nat) : Int)) ?_
   refine pV 44 (.slice (some ⟨gsb, 0, none⟩) l6.length csb) ?_
   refine pV 45 (.int .i64 ((l6.length : Nat) : Int)) ?_
   refine pH 46 (.bool false) (dF (((l6.length : Nat) : Int) < ((l6.length : Nat) : Int)) (by omega)) ?_
   refine nT ?_
   refine wp_cond_false (by kernel_rfl) ?_
   refine wp_exit ?_
   refine au_then_exit ?_
   refine au_then_exit ?_
   refine au_block_exit ?_
   refine au_then ?_
   refine sR ?_
   refine pV 10 (.slice none 0 0) ?_
   refine nT ?_
   refine sR ?_
   refine pV 11 (.bool false) ?_
   refine nT ?_
   refine wp_seq ?_
   refine sR ?_
   refine pV 12 (.int .i64 0) ?_
   refine nT ?_
   refine wp_block ?_
   rw [hwn]
   refine au_loop (fun j a w' => ∃ (yc : Nat → Value) (tv : Value) (fb : Bool), a = ⟨#[.string s, undef, .pointer (some ⟨g1, 0, none⟩), .slice (some ⟨gsb, 0, none⟩) l6.length csb, undef, undef, undef, .pointer (some ⟨g2, 0, none⟩), .int .i64 ((wn : Nat) : Int), .int .i64 ((l6.length : Nat) : Int), tv, .bool (fb), .int .i64 (j : Int), yc 13, undef, .string s, .slice (some ⟨gsa, 0, none⟩) l4.length csa, .slice (some ⟨gsa, 0, none⟩) l4.length csa, .int .i64 ((l4.length : Nat) : Int), .bool false, undef, undef, undef, undef, undef, undef, undef, undef, undef, undef, undef, undef, undef, undef, undef, undef, undef, undef, undef, undef, .agg (av 3 (ls [.bool true, .int .u64 0, .int .u64 0])), .string s, .slice (some ⟨gsb, 0, none⟩) l6.length csb, .int .i64 ((l6.length : Nat) : Int), .slice (some ⟨gsb, 0, none⟩) l6.length csb, .int .i64 ((l6.length : Nat) : Int), .bool false, v1 47, v1 48, v1 49, v1 50, v1 51, v1 52, v1 53, v1 54, v1 55, yc 56, yc 57, yc 58, yc 59, yc 60, yc 61, yc 62, yc 63, yc 64, yc 65, yc 66, yc 67, yc 68, yc 69, yc 70, yc 71, yc 72, yc 73, yc 74, yc 75, yc 76, yc 77, yc 78, yc 79, yc 80, yc 81, yc 82, yc 83, yc 84, yc 85, yc 86, yc 87, yc 88, undef, undef, undef, undef, undef, undef, undef, undef, undef, undef, undef, undef, undef, undef, undef, undef, undef, undef, undef, undef, undef, undef, undef, undef, undef, undef, undef, undef, undef, undef, undef, undef, undef, undef, undef, undef, undef, undef, undef], []⟩ ∧ fb = (pq l6 wn j).2 ∧ TSn ⟨w, []⟩ [⟨g1, .cells (av 3 (ls [.bool false, .int .u64 0, .int .u64 0])) 24⟩, ⟨gsa, Zsa⟩, ⟨g2, .cells (av 3 (ls [.bool true, .int .u64 0, .int .u64 0])) 24⟩, ⟨gsb, Zsb⟩] w' tv (pq l6 wn j).1) l6.length ⟨fun k_ => ([undef, undef, undef, undef, undef, undef, undef, undef, undef, undef, undef, undef, undef, undef, undef, undef, undef, undef, undef, undef, undef, undef, undef, undef, undef, undef, undef, undef, undef, undef, undef, undef, undef, undef, undef, undef, undef, undef, undef, undef, undef, undef, undef, undef, undef, undef, undef, undef, undef, undef, undef, undef, undef, undef, undef, undef, undef, undef, undef, undef, undef, undef, undef, undef, undef, undef, undef, undef, undef, undef, undef, undef, undef, undef, undef, undef] : List Value).getD (k_ - 13) undef, _, _, by kernel_rfl, rfl, .inl ⟨rfl, rfl, M⟩⟩ ?_ ?_
   ·intro j a u0 hj hI
    obtain ⟨yc, tv, fb, rfl, hfb, hT⟩ := hI
    have hq := pq_le l6 wn j
    rcases hT with ⟨hnil, rfl, M⟩ | ⟨g9, cap9, Z9, rfl, hZ9, M⟩
    ·skip
     rcases Bool.eq_false_or_eq_true fb with rfl | rfl
     ·skip
      refine wp_seq ?_
      refine sR ?_
      refine pV 56 (.int .i64 (j : Int)) ?_
      refine pV 57 (.slice (some ⟨gsb, 0, none⟩) l6.length csb) ?_
      refine pV 58 (.int .i64 ((l6.length : Nat) : Int)) ?_
      refine pH 59 (.bool true) (dTz ((j : Int) < ((l6.length : Nat) : Int)) (by omega)) ?_
      refine nT ?_
      refine wp_cond_true (by kernel_rfl) ?_
      refine wp_skip ?_
      refine au_then ?_
      refine wp_seq ?_
      refine wp_block ?_
      refine wp_seq ?_
      refine sR ?_
      refine pV 62 (.slice (some ⟨gsb, 0, none⟩) l6.length csb) ?_
      refine pV 63 (.int .i64 (j : Int)) ?_
      refine pH 64 (.pointer (some ⟨gsb, j, none⟩)) (run_ix0 72 9 Tryz.underlying72 inz9 _ _ rfl gsb l6.length csb (by kernel_rfl) .i64 j (by kernel_rfl) (by omega)) ?_
      refine pEz M 65 gsb j (.string (tg l6 j)) (fun w M => hSb.cell (M.get 3 rfl) (vS_at _ _ (by omega))) ?_
      by_cases c3 : (tg l6 j) = (⟨#[]⟩ : ByteArray)
      ·skip
       refine pH 66 (.bool false) (fun w => Eq.trans (b := .ok (.value (.bool (!((tg l6 j).toList == (⟨#[]⟩ : ByteArray).toList)))) w) (by kernel_rfl) (by rw [seq_pos c3]; rfl)) ?_
       refine nT ?_
       refine wp_cond_false (by kernel_rfl) ?_
       refine wp_skip ?_
       refine au_then ?_
       refine wp_seq ?_
       refine sR ?_
       refine pV 77 (.int .i64 ((wn : Nat) : Int)) ?_
       refine pV 13 (.int .i64 ((wn : Nat) : Int)) ?_
       refine nT ?_
       refine wp_block ?_
       refine wp_loop_rounds 1 ?_
       refine rounds_go ?_
       refine wp_seq ?_
       refine sR ?_
       refine pV 78 (.int .i64 ((wn : Nat) : Int)) ?_
       by_cases c4 : ((wn : Nat) : Int) < 8
       ·skip
        refine pH 79 (.bool true) (dTz (((wn : Nat) : Int) < 8) (c4)) ?_
        refine pV 80 (.bool true) ?_
        refine pl_val (want_on 2 true rfl 80 rfl (by kernel_rfl)) (some 81) rfl (.bool true) (fun _ => by kernel_rfl) ?_
        refine pl_val (want_on 2 true rfl 80 rfl (by kernel_rfl)) (some 82) rfl (.bool false) (fun _ => by kernel_rfl) ?_
        refine pV 83 (.bool false) ?_
        refine nT ?_
        refine wp_cond_false (by kernel_rfl) ?_
        refine wp_exit ?_
        refine au_then_exit ?_
        refine au_then_exit ?_
        refine au_block_exit ?_
        refine au_then ?_
        refine rg_lit ?_
        refine pV 11 (.bool true) ?_
        refine pl_nil ?_
        refine au_block ?_
        refine au_then ?_
        refine rg_lit ?_
        refine pV 60 (.int .i64 (j : Int)) ?_
        refine pH 61 (.int .i64 ((j + 1 : Nat) : Int)) (iV ((j : Int) + 1) (by omega) (by omega) (by omega)) ?_
        refine pV 12 (.int .i64 ((j + 1 : Nat) : Int)) ?_
        refine nT ?_
        have hz : pq l6 wn (j + 1) = pq l6 wn j := by rw [pq, if_pos c3, if_pos hfb.symm]
        exact ⟨fun k_ => ([.int .i64 ((wn : Nat) : Int), undef, undef, undef, undef, undef, undef, undef, undef, undef, undef, undef, undef, undef, undef, undef, undef, undef, undef, undef, undef, undef, undef, undef, undef, undef, undef, undef, undef, undef, undef, undef, undef, undef, undef, undef, undef, undef, undef, undef, undef, undef, undef, .int .i64 (j : Int), .slice (some ⟨gsb, 0, none⟩) l6.length csb, .int .i64 ((l6.length : Nat) : Int), .bool true, .int .i64 (j : Int), .int .i64 ((j + 1 : Nat) : Int), .slice (some ⟨gsb, 0, none⟩) l6.length csb, .int .i64 (j : Int), .pointer (some ⟨gsb, j, none⟩), .string (tg l6 j), .bool false, yc 67, yc 68, yc 69, yc 70, yc 71, yc 72, yc 73, yc 74, yc 75, yc 76, .int .i64 ((wn : Nat) : Int), .int .i64 ((wn : Nat) : Int), .bool true, .bool true, .bool true, .bool false, .bool false, yc 84, yc 85, yc 86, yc 87, yc 88] : List Value).getD (k_ - 13) undef, .slice none 0 0, true, by kernel_rfl, by rw [hz]; exact hfb, .inl ⟨by rw [hz]; exact hnil, rfl, M⟩⟩
       ·skip
        refine pH 79 (.bool false) (dF (((wn : Nat) : Int) < 8) (c4)) ?_
        refine pV 80 (.bool false) ?_
        refine pl_skip (want_off 2 true rfl 80 rfl (by kernel_rfl)) (some 81) rfl ?_
        refine pl_skip (want_off 2 true rfl 80 rfl (by kernel_rfl)) (some 82) rfl ?_
        refine pV 83 (.bool false) ?_
        refine nT ?_
        refine wp_cond_false (by kernel_rfl) ?_
        refine wp_exit ?_
        refine au_then_exit ?_
        refine au_then_exit ?_
        refine au_block_exit ?_
        refine au_then ?_
        refine rg_lit ?_
        refine pV 11 (.bool true) ?_
        refine pl_nil ?_
        refine au_block ?_
        refine au_then ?_
        refine rg_lit ?_
        refine pV 60 (.int .i64 (j : Int)) ?_
        refine pH 61 (.int .i64 ((j + 1 : Nat) : Int)) (iV ((j : Int) + 1) (by omega) (by omega) (by omega)) ?_
        refine pV 12 (.int .i64 ((j + 1 : Nat) : Int)) ?_
        refine nT ?_
        have hz : pq l6 wn (j + 1) = pq l6 wn j := by rw [pq, if_pos c3, if_pos hfb.symm]
        exact ⟨fun k_ => ([.int .i64 ((wn : Nat) : Int), undef, undef, undef, undef, undef, undef, undef, undef, undef, undef, undef, undef, undef, undef, undef, undef, undef, undef, undef, undef, undef, undef, undef, undef, undef, undef, undef, undef, undef, undef, undef, undef, undef, undef, undef, undef, undef, undef, undef, undef, undef, undef, .int .i64 (j : Int), .slice (some ⟨gsb, 0, none⟩) l6.length csb, .int .i64 ((l6.length : Nat) : Int), .bool true, .int .i64 (j : Int), .int .i64 ((j + 1 : Nat) : Int), .slice (some ⟨gsb, 0, none⟩) l6.length csb, .int .i64 (j : Int), .pointer (some ⟨gsb, j, none⟩), .string (tg l6 j), .bool false, yc 67, yc 68, yc 69, yc 70, yc 71, yc 72, yc 73, yc 74, yc 75, yc 76, .int .i64 ((wn : Nat) : Int), .int .i64 ((wn : Nat) : Int), .bool false, .bool false, undef, undef, .bool false, yc 84, yc 85, yc 86, yc 87, yc 88] : List Value).getD (k_ - 13) undef, .slice none 0 0, true, by kernel_rfl, by rw [hz]; exact hfb, .inl ⟨by rw [hz]; exact hnil, rfl, M⟩⟩
      ·skip
       refine pH 66 (.bool true) (fun w => Eq.trans (b := .ok (.value (.bool (!((tg l6 j).toList == (⟨#[]⟩ : ByteArray).toList)))) w) (by kernel_rfl) (by rw [seq_neg c3]; rfl)) ?_
       refine nT ?_
       refine wp_cond_true (by kernel_rfl) ?_
       refine sR ?_
       refine pV 67 (.slice none 0 0) ?_
       refine pV 68 (.slice (some ⟨gsb, 0, none⟩) l6.length csb) ?_
       refine pV 69 (.int .i64 (j : Int)) ?_
       refine pH 70 (.pointer (some ⟨gsb, j, none⟩)) (run_ix0 72 9 Tryz.underlying72 inz9 _ _ rfl gsb l6.length csb (by kernel_rfl) .i64 j (by kernel_rfl) (by omega)) ?_
       refine pEz M 71 gsb j (.string (tg l6 j)) (fun w M => hSb.cell (M.get 3 rfl) (vS_at _ _ (by omega))) ?_
       refine pC M 72 49 #[.string (tg l6 j), .int .i64 16] (.int .i64 (dgs 16 (tg l6 j))) (fun w M => d_digits16 (tg l6 j) w M.laid) fun u6 M => ?_
       refine pH 73 (.int .i64 (max (dgs 16 (tg l6 j)) 0)) (fun w => Eq.trans (b := .ok (.value (.int .i64 (if (0 : Int) > (dgs 16 (tg l6 j)) then 0 else (dgs 16 (tg l6 j))))) w) (by kernel_rfl) (by rw [if_max])) ?_
       refine pV 74 (.int .u64 (cv .u64 (max (dgs 16 (tg l6 j)) 0))) ?_
       refine pl_mk M (want_no rfl) (some 75) rfl (fun g3 => .slice (some ⟨g3, 0, none⟩) 1 1) (.cells (av 1 (fun _ => .int .u64 (cv .u64 (max (dgs 16 (tg l6 j)) 0)))) 22) (fun _ => by kernel_rfl) fun g3 u7 M => ?_
       refine pl_app0I M (want_no rfl) (some 76) rfl 88 88 22 (.int .u64 0) Tryz.underlying88 info22 rfl 4 g3 22 (.int .u64 (cv .u64 (max (dgs 16 (tg l6 j)) 0))) rfl (fun _ => by kernel_rfl) ?_
       intro g8 cap8 Z8 u8 hZ8 M
       refine pV 10 (.slice (some ⟨g8, 0, none⟩) 1 cap8) ?_
       refine nT ?_
       refine wp_exit ?_
       refine au_then_exit ?_
       refine au_block_exit ?_
       refine au_then ?_
       refine rg_lit ?_
       refine pV 60 (.int .i64 (j : Int)) ?_
       refine pH 61 (.int .i64 ((j + 1 : Nat) : Int)) (iV ((j : Int) + 1) (by omega) (by omega) (by omega)) ?_
       refine pV 12 (.int .i64 ((j + 1 : Nat) : Int)) ?_
       refine nT ?_
       have hz : pq l6 wn (j + 1) = ((pq l6 wn j).1 ++ [hdx (tg l6 j)], (pq l6 wn j).2) := if_neg c3
       exact ⟨fun k_ => ([yc 13, undef, undef, undef, undef, undef, undef, undef, undef, undef, undef, undef, undef, undef, undef, undef, undef, undef, undef, undef, undef, undef, undef, undef, undef, undef, undef, undef, undef, undef, undef, undef, undef, undef, undef, undef, undef, undef, undef, undef, undef, undef, undef, .int .i64 (j : Int), .slice (some ⟨gsb, 0, none⟩) l6.length csb, .int .i64 ((l6.length : Nat) : Int), .bool true, .int .i64 (j : Int), .int .i64 ((j + 1 : Nat) : Int), .slice (some ⟨gsb, 0, none⟩) l6.length csb, .int .i64 (j : Int), .pointer (some ⟨gsb, j, none⟩), .string (tg l6 j), .bool true, .slice none 0 0, .slice (some ⟨gsb, 0, none⟩) l6.length csb, .int .i64 (j : Int), .pointer (some ⟨gsb, j, none⟩), .string (tg l6 j), .int .i64 (dgs 16 (tg l6 j)), .int .i64 (max (dgs 16 (tg l6 j)) 0), .int .u64 (cv .u64 (max (dgs 16 (tg l6 j)) 0)), .slice (some ⟨g3, 0, none⟩) 1 1, .slice (some ⟨g8, 0, none⟩) 1 cap8, yc 77, yc 78, yc 79, yc 80, yc 81, yc 82, yc 83, yc 84, yc 85, yc 86, yc 87, yc 88] : List Value).getD (k_ - 13) undef, .slice (some ⟨g8, 0, none⟩) 1 cap8, true, by kernel_rfl, by rw [hz]; exact hfb, .inr ⟨g8, cap8, Z8, by rw [hz, hnil]; rfl, by rw [hz, hnil]; exact hZ8, M.drop (.cons_cons _ (.cons_cons _ (.cons_cons _ (.cons_cons _ (.cons _ (.cons_cons _ .slnil))))))⟩⟩
     ·skip
      refine wp_seq ?_
      refine sR ?_
      refine pV 56 (.int .i64 (j : Int)) ?_
      refine pV 57 (.slice (some ⟨gsb, 0, none⟩) l6.length csb) ?_
      refine pV 58 (.int .i64 ((l6.length : Nat) : Int)) ?_
      refine pH 59 (.bool true) (dTz ((j : Int) < ((l6.length : Nat) : Int)) (by omega)) ?_
      refine nT ?_
      refine wp_cond_true (by kernel_rfl) ?_
      refine wp_skip ?_
      refine au_then ?_
      refine wp_seq ?_
      refine wp_block ?_
      refine wp_seq ?_
      refine sR ?_
      refine pV 62 (.slice (some ⟨gsb, 0, none⟩) l6.length csb) ?_
      refine pV 63 (.int .i64 (j : Int)) ?_
      refine pH 64 (.pointer (some ⟨gsb, j, none⟩)) (run_ix0 72 9 Tryz.underlying72 inz9 _ _ rfl gsb l6.length csb (by kernel_rfl) .i64 j (by kernel_rfl) (by omega)) ?_
      refine pEz M 65 gsb j (.string (tg l6 j)) (fun w M => hSb.cell (M.get 3 rfl) (vS_at _ _ (by omega))) ?_
      by_cases c3 : (tg l6 j) = (⟨#[]⟩ : ByteArray)
      ·skip
       refine pH 66 (.bool false) (fun w => Eq.trans (b := .ok (.value (.bool (!((tg l6 j).toList == (⟨#[]⟩ : ByteArray).toList)))) w) (by kernel_rfl) (by rw [seq_pos c3]; rfl)) ?_
       refine nT ?_
       refine wp_cond_false (by kernel_rfl) ?_
       refine wp_skip ?_
       refine au_then ?_
       refine wp_seq ?_
       refine sR ?_
       refine pV 77 (.int .i64 ((wn : Nat) : Int)) ?_
       refine pV 13 (.int .i64 ((wn : Nat) : Int)) ?_
       refine nT ?_
       refine wp_block ?_
       refine au_loop (fun i a w' => ∃ (yd : Nat → Value) (tv : Value), a = ⟨#[.string s, undef, .pointer (some ⟨g1, 0, none⟩), .slice (some ⟨gsb, 0, none⟩) l6.length csb, undef, undef, undef, .pointer (some ⟨g2, 0, none⟩), .int .i64 ((wn : Nat) : Int), .int .i64 ((l6.length : Nat) : Int), tv, .bool false, .int .i64 (j : Int), .int .i64 ((wn + i : Nat) : Int), undef, .string s, .slice (some ⟨gsa, 0, none⟩) l4.length csa, .slice (some ⟨gsa, 0, none⟩) l4.length csa, .int .i64 ((l4.length : Nat) : Int), .bool false, undef, undef, undef, undef, undef, undef, undef, undef, undef, undef, undef, undef, undef, undef, undef, undef, undef, undef, undef, undef, .agg (av 3 (ls [.bool true, .int .u64 0, .int .u64 0])), .string s, .slice (some ⟨gsb, 0, none⟩) l6.length csb, .int .i64 ((l6.length : Nat) : Int), .slice (some ⟨gsb, 0, none⟩) l6.length csb, .int .i64 ((l6.length : Nat) : Int), .bool false, v1 47, v1 48, v1 49, v1 50, v1 51, v1 52, v1 53, v1 54, v1 55, .int .i64 (j : Int), .slice (some ⟨gsb, 0, none⟩) l6.length csb, .int .i64 ((l6.length : Nat) : Int), .bool true, yc 60, yc 61, .slice (some ⟨gsb, 0, none⟩) l6.length csb, .int .i64 (j : Int), .pointer (some ⟨gsb, j, none⟩), .string (tg l6 j), .bool false, yc 67, yc 68, yc 69, yc 70, yc 71, yc 72, yc 73, yc 74, yc 75, yc 76, .int .i64 ((wn : Nat) : Int), yd 78, yd 79, yd 80, yd 81, yd 82, yd 83, yd 84, yd 85, yd 86, yd 87, yd 88, undef, undef, undef, undef, undef, undef, undef, undef, undef, undef, undef, undef, undef, undef, undef, undef, undef, undef, undef, undef, undef, undef, undef, undef, undef, undef, undef, undef, undef, undef, undef, undef, undef, undef, undef, undef, undef, undef, undef], []⟩ ∧ TSn ⟨w, []⟩ [⟨g1, .cells (av 3 (ls [.bool false, .int .u64 0, .int .u64 0])) 24⟩, ⟨gsa, Zsa⟩, ⟨g2, .cells (av 3 (ls [.bool true, .int .u64 0, .int .u64 0])) 24⟩, ⟨gsb, Zsb⟩] w' tv ((pq l6 wn j).1 ++ List.replicate i 0)) (8 - wn) ⟨fun k_ => ([yc 78, yc 79, yc 80, yc 81, yc 82, yc 83, yc 84, yc 85, yc 86, yc 87, yc 88] : List Value).getD (k_ - 78) undef, _, by kernel_rfl, .inl ⟨by rw [hnil]; rfl, rfl, M⟩⟩ ?_ ?_
       ·intro i a u0 hi hI
        obtain ⟨yd, tv, rfl, hT⟩ := hI
        rcases hT with ⟨hnil7, rfl, M⟩ | ⟨g7, cap7, Z7, rfl, hZ7, M⟩
        ·skip
         refine wp_seq ?_
         refine sR ?_
         refine pV 78 (.int .i64 ((wn + i : Nat) : Int)) ?_
         refine pH 79 (.bool true) (dTz (((wn + i : Nat) : Int) < 8) (by omega)) ?_
         refine pV 80 (.bool true) ?_
         refine pl_val (want_on 2 true rfl 80 rfl (by kernel_rfl)) (some 81) rfl (.bool false) (fun _ => by kernel_rfl) ?_
         refine pl_val (want_on 2 true rfl 80 rfl (by kernel_rfl)) (some 82) rfl (.bool true) (fun _ => by kernel_rfl) ?_
         refine pV 83 (.bool true) ?_
         refine nT ?_
         refine wp_cond_true (by kernel_rfl) ?_
         refine wp_skip ?_
         refine au_then ?_
         refine wp_seq ?_
         refine wp_block ?_
         refine rg_lit ?_
         refine pV 86 (.slice none 0 0) ?_
         refine pl_mk M (want_no rfl) (some 87) rfl (fun g3 => .slice (some ⟨g3, 0, none⟩) 1 1) (.cells (av 1 (fun _ => .int .u64 0)) 22) (fun _ => by kernel_rfl) fun g3 u6 M => ?_
         refine pl_app0I M (want_no rfl) (some 88) rfl 88 88 22 (.int .u64 0) Tryz.underlying88 info22 rfl 4 g3 22 (.int .u64 0) rfl (fun _ => by kernel_rfl) ?_
         intro g8 cap8 Z8 u7 hZ8 M
         refine pV 10 (.slice (some ⟨g8, 0, none⟩) 1 cap8) ?_
         refine pl_nil ?_
         refine au_block ?_
         refine au_then ?_
         refine rg_lit ?_
         refine pV 84 (.int .i64 ((wn + i : Nat) : Int)) ?_
         refine pH 85 (.int .i64 ((wn + (i + 1) : Nat) : Int)) (iV (((wn + i : Nat) : Int) + 1) (by omega) (by omega) (by omega)) ?_
         refine pV 13 (.int .i64 ((wn + (i + 1) : Nat) : Int)) ?_
         refine nT ?_
         have hr : (pq l6 wn j).1 ++ List.replicate (i + 1) 0 = ((pq l6 wn j).1 ++ List.replicate i 0) ++ [0] := by rw [List.replicate_succ', List.append_assoc]
         exact ⟨fun k_ => ([.int .i64 ((wn + i : Nat) : Int), .bool true, .bool true, .bool false, .bool true, .bool true, .int .i64 ((wn + i : Nat) : Int), .int .i64 ((wn + (i + 1) : Nat) : Int), .slice none 0 0, .slice (some ⟨g3, 0, none⟩) 1 1, .slice (some ⟨g8, 0, none⟩) 1 cap8] : List Value).getD (k_ - 78) undef, .slice (some ⟨g8, 0, none⟩) 1 cap8, by kernel_rfl, .inr ⟨g8, cap8, Z8, by rw [hr, hnil7]; rfl, by rw [hr, hnil7]; exact hZ8, M.drop (.cons_cons _ (.cons_cons _ (.cons_cons _ (.cons_cons _ (.cons _ (.cons_cons _ .slnil))))))⟩⟩
        ·skip
         refine wp_seq ?_
         refine sR ?_
         refine pV 78 (.int .i64 ((wn + i : Nat) : Int)) ?_
         refine pH 79 (.bool true) (dTz (((wn + i : Nat) : Int) < 8) (by omega)) ?_
         refine pV 80 (.bool true) ?_
         refine pl_val (want_on 2 true rfl 80 rfl (by kernel_rfl)) (some 81) rfl (.bool false) (fun _ => by kernel_rfl) ?_
         refine pl_val (want_on 2 true rfl 80 rfl (by kernel_rfl)) (some 82) rfl (.bool true) (fun _ => by kernel_rfl) ?_
         refine pV 83 (.bool true) ?_
         refine nT ?_
         refine wp_cond_true (by kernel_rfl) ?_
         refine wp_skip ?_
         refine au_then ?_
         refine wp_seq ?_
         refine wp_block ?_
         refine rg_lit ?_
         refine pV 86 (.slice (some ⟨g7, 0, none⟩) ((pq l6 wn j).1 ++ List.replicate i 0).length cap7) ?_
         refine pl_mk M (want_no rfl) (some 87) rfl (fun g3 => .slice (some ⟨g3, 0, none⟩) 1 1) (.cells (av 1 (fun _ => .int .u64 0)) 22) (fun _ => by kernel_rfl) fun g3 u6 M => ?_
         refine pl_appI M (want_no rfl) (some 88) rfl 88 88 22 (.int .u64 0) Tryz.underlying88 info22 rfl 4 g7 (((pq l6 wn j).1 ++ List.replicate i 0).length) cap7 Z7 (v64 ((pq l6 wn j).1 ++ List.replicate i 0)) rfl hZ7 (v64_len _) (by rw [List.length_append, List.length_replicate]; omega) 5 g3 22 (.int .u64 0) rfl rfl (fun _ => by kernel_rfl) ?_
         intro g8 cap8 Z8 u7 hZ8 M
         refine pV 10 (.slice (some ⟨g8, 0, none⟩) (((pq l6 wn j).1 ++ List.replicate i 0).length + 1) cap8) ?_
         refine pl_nil ?_
         refine au_block ?_
         refine au_then ?_
         refine rg_lit ?_
         refine pV 84 (.int .i64 ((wn + i : Nat) : Int)) ?_
         refine pH 85 (.int .i64 ((wn + (i + 1) : Nat) : Int)) (iV (((wn + i : Nat) : Int) + 1) (by omega) (by omega) (by omega)) ?_
         refine pV 13 (.int .i64 ((wn + (i + 1) : Nat) : Int)) ?_
         refine nT ?_
         have hr : (pq l6 wn j).1 ++ List.replicate (i + 1) 0 = ((pq l6 wn j).1 ++ List.replicate i 0) ++ [0] := by rw [List.replicate_succ', List.append_assoc]
         exact ⟨fun k_ => ([.int .i64 ((wn + i : Nat) : Int), .bool true, .bool true, .bool false, .bool true, .bool true, .int .i64 ((wn + i : Nat) : Int), .int .i64 ((wn + (i + 1) : Nat) : Int), .slice (some ⟨g7, 0, none⟩) ((pq l6 wn j).1 ++ List.replicate i 0).length cap7, .slice (some ⟨g3, 0, none⟩) 1 1, .slice (some ⟨g8, 0, none⟩) (((pq l6 wn j).1 ++ List.replicate i 0).length + 1) cap8] : List Value).getD (k_ - 78) undef, .slice (some ⟨g8, 0, none⟩) (((pq l6 wn j).1 ++ List.replicate i 0).length + 1) cap8, by kernel_rfl, .inr ⟨g8, cap8, Z8, by rw [hr, len_app1], by rw [hr, v64_app]; exact hZ8, M.drop (.cons_cons _ (.cons_cons _ (.cons_cons _ (.cons_cons _ (.cons _ (.cons_cons _ .slnil))))))⟩⟩
       ·intro a u0 hI
        obtain ⟨yd, tv, rfl, hT⟩ := hI
        rcases hT with ⟨hnil7, rfl, M⟩ | ⟨g7, cap7, Z7, rfl, hZ7, M⟩
        ·skip
         refine wp_seq ?_
         refine sR ?_
         refine pV 78 (.int .i64 ((wn + (8 - wn) : Nat) : Int)) ?_
         refine pH 79 (.bool false) (dF (((wn + (8 - wn) : Nat) : Int) < 8) (by omega)) ?_
         refine pV 80 (.bool false) ?_
         refine pl_skip (want_off 2 true rfl 80 rfl (by kernel_rfl)) (some 81) rfl ?_
         refine pl_skip (want_off 2 true rfl 80 rfl (by kernel_rfl)) (some 82) rfl ?_
         refine pV 83 (.bool false) ?_
         refine nT ?_
         refine wp_cond_false (by kernel_rfl) ?_
         refine wp_exit ?_
         refine au_then_exit ?_
         refine au_then_exit ?_
         refine au_block_exit ?_
         refine au_then ?_
         refine rg_lit ?_
         refine pV 11 (.bool true) ?_
         refine pl_nil ?_
         refine au_block ?_
         refine au_then ?_
         refine rg_lit ?_
         refine pV 60 (.int .i64 (j : Int)) ?_
         refine pH 61 (.int .i64 ((j + 1 : Nat) : Int)) (iV ((j : Int) + 1) (by omega) (by omega) (by omega)) ?_
         refine pV 12 (.int .i64 ((j + 1 : Nat) : Int)) ?_
         refine nT ?_
         have hz : pq l6 wn (j + 1) = ((pq l6 wn j).1 ++ List.replicate (8 - wn) 0, true) := by rw [pq, if_pos c3, if_neg (by rw [← hfb]; decide)]
         exact ⟨fun k_ => ([.int .i64 ((wn + (8 - wn) : Nat) : Int), undef, undef, undef, undef, undef, undef, undef, undef, undef, undef, undef, undef, undef, undef, undef, undef, undef, undef, undef, undef, undef, undef, undef, undef, undef, undef, undef, undef, undef, undef, undef, undef, undef, undef, undef, undef, undef, undef, undef, undef, undef, undef, .int .i64 (j : Int), .slice (some ⟨gsb, 0, none⟩) l6.length csb, .int .i64 ((l6.length : Nat) : Int), .bool true, .int .i64 (j : Int), .int .i64 ((j + 1 : Nat) : Int), .slice (some ⟨gsb, 0, none⟩) l6.length csb, .int .i64 (j : Int), .pointer (some ⟨gsb, j, none⟩), .string (tg l6 j), .bool false, yc 67, yc 68, yc 69, yc 70, yc 71, yc 72, yc 73, yc 74, yc 75, yc 76, .int .i64 ((wn : Nat) : Int), .int .i64 ((wn + (8 - wn) : Nat) : Int), .bool false, .bool false, undef, undef, .bool false, yd 84, yd 85, yd 86, yd 87, yd 88] : List Value).getD (k_ - 13) undef, .slice none 0 0, true, by kernel_rfl, by rw [hz], .inl ⟨by rw [hz]; exact hnil7, rfl, M⟩⟩
        ·skip
         refine wp_seq ?_
         refine sR ?_
         refine pV 78 (.int .i64 ((wn + (8 - wn) : Nat) : Int)) ?_
         refine pH 79 (.bool false) (dF (((wn + (8 - wn) : Nat) : Int) < 8) (by omega)) ?_
         refine pV 80 (.bool false) ?_
         refine pl_skip (want_off 2 true rfl 80 rfl (by kernel_rfl)) (some 81) rfl ?_
         refine pl_skip (want_off 2 true rfl 80 rfl (by kernel_rfl)) (some 82) rfl ?_
         refine pV 83 (.bool false) ?_
         refine nT ?_
         refine wp_cond_false (by kernel_rfl) ?_
         refine wp_exit ?_
         refine au_then_exit ?_
         refine au_then_exit ?_
         refine au_block_exit ?_
         refine au_then ?_
         refine rg_lit ?_
         refine pV 11 (.bool true) ?_
         refine pl_nil ?_
         refine au_block ?_
         refine au_then ?_
         refine rg_lit ?_
         refine pV 60 (.int .i64 (j : Int)) ?_
         refine pH 61 (.int .i64 ((j + 1 : Nat) : Int)) (iV ((j : Int) + 1) (by omega) (by omega) (by omega)) ?_
         refine pV 12 (.int .i64 ((j + 1 : Nat) : Int)) ?_
         refine nT ?_
         have hz : pq l6 wn (j + 1) = ((pq l6 wn j).1 ++ List.replicate (8 - wn) 0, true) := by rw [pq, if_pos c3, if_neg (by rw [← hfb]; decide)]
         exact ⟨fun k_ => ([.int .i64 ((wn + (8 - wn) : Nat) : Int), undef, undef, undef, undef, undef, undef, undef, undef, undef, undef, undef, undef, undef, undef, undef, undef, undef, undef, undef, undef, undef, undef, undef, undef, undef, undef, undef, undef, undef, undef, undef, undef, undef, undef, undef, undef, undef, undef, undef, undef, undef, undef, .int .i64 (j : Int), .slice (some ⟨gsb, 0, none⟩) l6.length csb, .int .i64 ((l6.length : Nat) : Int), .bool true, .int .i64 (j : Int), .int .i64 ((j + 1 : Nat) : Int), .slice (some ⟨gsb, 0, none⟩) l6.length csb, .int .i64 (j : Int), .pointer (some ⟨gsb, j, none⟩), .string (tg l6 j), .bool false, yc 67, yc 68, yc 69, yc 70, yc 71, yc 72, yc 73, yc 74, yc 75, yc 76, .int .i64 ((wn : Nat) : Int), .int .i64 ((wn + (8 - wn) : Nat) : Int), .bool false, .bool false, undef, undef, .bool false, yd 84, yd 85, yd 86, yd 87, yd 88] : List Value).getD (k_ - 13) undef, .slice (some ⟨g7, 0, none⟩) ((pq l6 wn j).1 ++ List.replicate (8 - wn) 0).length cap7, true, by kernel_rfl, by rw [hz], .inr ⟨g7, cap7, Z7, by rw [hz], by rw [hz]; exact hZ7, M⟩⟩
      ·skip
       refine pH 66 (.bool true) (fun w => Eq.trans (b := .ok (.value (.bool (!((tg l6 j).toList == (⟨#[]⟩ : ByteArray).toList)))) w) (by kernel_rfl) (by rw [seq_neg c3]; rfl)) ?_
       refine nT ?_
       refine wp_cond_true (by kernel_rfl) ?_
       refine sR ?_
       refine pV 67 (.slice none 0 0) ?_
       refine pV 68 (.slice (some ⟨gsb, 0, none⟩) l6.length csb) ?_
       refine pV 69 (.int .i64 (j : Int)) ?_
       refine pH 70 (.pointer (some ⟨gsb, j, none⟩)) (run_ix0 72 9 Tryz.underlying72 inz9 _ _ rfl gsb l6.length csb (by kernel_rfl) .i64 j (by kernel_rfl) (by omega)) ?_
       refine pEz M 71 gsb j (.string (tg l6 j)) (fun w M => hSb.cell (M.get 3 rfl) (vS_at _ _ (by omega))) ?_
       refine pC M 72 49 #[.string (tg l6 j), .int .i64 16] (.int .i64 (dgs 16 (tg l6 j))) (fun w M => d_digits16 (tg l6 j) w M.laid) fun u6 M => ?_
       refine pH 73 (.int .i64 (max (dgs 16 (tg l6 j)) 0)) (fun w => Eq.trans (b := .ok (.value (.int .i64 (if (0 : Int) > (dgs 16 (tg l6 j)) then 0 else (dgs 16 (tg l6 j))))) w) (by kernel_rfl) (by rw [if_max])) ?_
       refine pV 74 (.int .u64 (cv .u64 (max (dgs 16 (tg l6 j)) 0))) ?_
       refine pl_mk M (want_no rfl) (some 75) rfl (fun g3 => .slice (some ⟨g3, 0, none⟩) 1 1) (.cells (av 1 (fun _ => .int .u64 (cv .u64 (max (dgs 16 (tg l6 j)) 0)))) 22) (fun _ => by kernel_rfl) fun g3 u7 M => ?_
       refine pl_app0I M (want_no rfl) (some 76) rfl 88 88 22 (.int .u64 0) Tryz.underlying88 info22 rfl 4 g3 22 (.int .u64 (cv .u64 (max (dgs 16 (tg l6 j)) 0))) rfl (fun _ => by kernel_rfl) ?_
       intro g8 cap8 Z8 u8 hZ8 M
       refine pV 10 (.slice (some ⟨g8, 0, none⟩) 1 cap8) ?_
       refine nT ?_
       refine wp_exit ?_
       refine au_then_exit ?_
       refine au_block_exit ?_
       refine au_then ?_
       refine rg_lit ?_
       refine pV 60 (.int .i64 (j : Int)) ?_
       refine pH 61 (.int .i64 ((j + 1 : Nat) : Int)) (iV ((j : Int) + 1) (by omega) (by omega) (by omega)) ?_
       refine pV 12 (.int .i64 ((j + 1 : Nat) : Int)) ?_
       refine nT ?_
       have hz : pq l6 wn (j + 1) = ((pq l6 wn j).1 ++ [hdx (tg l6 j)], (pq l6 wn j).2) := if_neg c3
       exact ⟨fun k_ => ([yc 13, undef, undef, undef, undef, undef, undef, undef, undef, undef, undef, undef, undef, undef, undef, undef, undef, undef, undef, undef, undef, undef, undef, undef, undef, undef, undef, undef, undef, undef, undef, undef, undef, undef, undef, undef, undef, undef, undef, undef, undef, undef, undef, .int .i64 (j : Int), .slice (some ⟨gsb, 0, none⟩) l6.length csb, .int .i64 ((l6.length : Nat) : Int), .bool true, .int .i64 (j : Int), .int .i64 ((j + 1 : Nat) : Int), .slice (some ⟨gsb, 0, none⟩) l6.length csb, .int .i64 (j : Int), .pointer (some ⟨gsb, j, none⟩), .string (tg l6 j), .bool true, .slice none 0 0, .slice (some ⟨gsb, 0, none⟩) l6.length csb, .int .i64 (j : Int), .pointer (some ⟨gsb, j, none⟩), .string (tg l6 j), .int .i64 (dgs 16 (tg l6 j)), .int .i64 (max (dgs 16 (tg l6 j)) 0), .int .u64 (cv .u64 (max (dgs 16 (tg l6 j)) 0)), .slice (some ⟨g3, 0, none⟩) 1 1, .slice (some ⟨g8, 0, none⟩) 1 cap8, yc 77, yc 78, yc 79, yc 80, yc 81, yc 82, yc 83, yc 84, yc 85, yc 86, yc 87, yc 88] : List Value).getD (k_ - 13) undef, .slice (some ⟨g8, 0, none⟩) 1 cap8, false, by kernel_rfl, by rw [hz]; exact hfb, .inr ⟨g8, cap8, Z8, by rw [hz, hnil]; rfl, by rw [hz, hnil]; exact hZ8, M.drop (.cons_cons _ (.cons_cons _ (.cons_cons _ (.cons_cons _ (.cons _ (.cons_cons _ .slnil))))))⟩⟩
    ·skip
     rcases Bool.eq_false_or_eq_true fb with rfl | rfl
     ·skip
      refine wp_seq ?_
      refine sR ?_
      refine pV 56 (.int .i64 (j : Int)) ?_
      refine pV 57 (.slice (some ⟨gsb, 0, none⟩) l6.length csb) ?_
      refine pV 58 (.int .i64 ((l6.length : Nat) : Int)) ?_
      refine pH 59 (.bool true) (dTz ((j : Int) < ((l6.length : Nat) : Int)) (by omega)) ?_
      refine nT ?_
      refine wp_cond_true (by kernel_rfl) ?_
      refine wp_skip ?_
      refine au_then ?_
      refine wp_seq ?_
      refine wp_block ?_
      refine wp_seq ?_
      refine sR ?_
      refine pV 62 (.slice (some ⟨gsb, 0, none⟩) l6.length csb) ?_
      refine pV 63 (.int .i64 (j : Int)) ?_
      refine pH 64 (.pointer (some ⟨gsb, j, none⟩)) (run_ix0 72 9 Tryz.underlying72 inz9 _ _ rfl gsb l6.length csb (by kernel_rfl) .i64 j (by kernel_rfl) (by omega)) ?_
      refine pEz M 65 gsb j (.string (tg l6 j)) (fun w M => hSb.cell (M.get 3 rfl) (vS_at _ _ (by omega))) ?_
      by_cases c3 : (tg l6 j) = (⟨#[]⟩ : ByteArray)
      ·skip
       refine pH 66 (.bool false) (fun w => Eq.trans (b := .ok (.value (.bool (!((tg l6 j).toList == (⟨#[]⟩ : ByteArray).toList)))) w) (by kernel_rfl) (by rw [seq_pos c3]; rfl)) ?_
       refine nT ?_
       refine wp_cond_false (by kernel_rfl) ?_
       refine wp_skip ?_
       refine au_then ?_
       refine wp_seq ?_
       refine sR ?_
       refine pV 77 (.int .i64 ((wn : Nat) : Int)) ?_
       refine pV 13 (.int .i64 ((wn : Nat) : Int)) ?_
       refine nT ?_
       refine wp_block ?_
       refine wp_loop_rounds 1 ?_
       refine rounds_go ?_
       refine wp_seq ?_
       refine sR ?_
       refine pV 78 (.int .i64 ((wn : Nat) : Int)) ?_
       by_cases c4 : ((wn : Nat) : Int) < 8
       ·skip
        refine pH 79 (.bool true) (dTz (((wn : Nat) : Int) < 8) (c4)) ?_
        refine pV 80 (.bool true) ?_
        refine pl_val (want_on 2 true rfl 80 rfl (by kernel_rfl)) (some 81) rfl (.bool true) (fun _ => by kernel_rfl) ?_
        refine pl_val (want_on 2 true rfl 80 rfl (by kernel_rfl)) (some 82) rfl (.bool false) (fun _ => by kernel_rfl) ?_
        refine pV 83 (.bool false) ?_
        refine nT ?_
        refine wp_cond_false (by kernel_rfl) ?_
        refine wp_exit ?_
        refine au_then_exit ?_
        refine au_then_exit ?_
        refine au_block_exit ?_
        refine au_then ?_
        refine rg_lit ?_
        refine pV 11 (.bool true) ?_
        refine pl_nil ?_
        refine au_block ?_
        refine au_then ?_
        refine rg_lit ?_
        refine pV 60 (.int .i64 (j : Int)) ?_
        refine pH 61 (.int .i64 ((j + 1 : Nat) : Int)) (iV ((j : Int) + 1) (by omega) (by omega) (by omega)) ?_
        refine pV 12 (.int .i64 ((j + 1 : Nat) : Int)) ?_
        refine nT ?_
        have hz : pq l6 wn (j + 1) = pq l6 wn j := by rw [pq, if_pos c3, if_pos hfb.symm]
        exact ⟨fun k_ => ([.int .i64 ((wn : Nat) : Int), undef, undef, undef, undef, undef, undef, undef, undef, undef, undef, undef, undef, undef, undef, undef, undef, undef, undef, undef, undef, undef, undef, undef, undef, undef, undef, undef, undef, undef, undef, undef, undef, undef, undef, undef, undef, undef, undef, undef, undef, undef, undef, .int .i64 (j : Int), .slice (some ⟨gsb, 0, none⟩) l6.length csb, .int .i64 ((l6.length : Nat) : Int), .bool true, .int .i64 (j : Int), .int .i64 ((j + 1 : Nat) : Int), .slice (some ⟨gsb, 0, none⟩) l6.length csb, .int .i64 (j : Int), .pointer (some ⟨gsb, j, none⟩), .string (tg l6 j), .bool false, yc 67, yc 68, yc 69, yc 70, yc 71, yc 72, yc 73, yc 74, yc 75, yc 76, .int .i64 ((wn : Nat) : Int), .int .i64 ((wn : Nat) : Int), .bool true, .bool true, .bool true, .bool false, .bool false, yc 84, yc 85, yc 86, yc 87, yc 88] : List Value).getD (k_ - 13) undef, .slice (some ⟨g9, 0, none⟩) (pq l6 wn j).1.length cap9, true, by kernel_rfl, by rw [hz]; exact hfb, .inr ⟨g9, cap9, Z9, by rw [hz], by rw [hz]; exact hZ9, M⟩⟩
       ·skip
        refine pH 79 (.bool false) (dF (((wn : Nat) : Int) < 8) (c4)) ?_
        refine pV 80 (.bool false) ?_
        refine pl_skip (want_off 2 true rfl 80 rfl (by kernel_rfl)) (some 81) rfl ?_
        refine pl_skip (want_off 2 true rfl 80 rfl (by kernel_rfl)) (some 82) rfl ?_
        refine pV 83 (.bool false) ?_
        refine nT ?_
        refine wp_cond_false (by kernel_rfl) ?_
        refine wp_exit ?_
        refine au_then_exit ?_
        refine au_then_exit ?_
        refine au_block_exit ?_
        refine au_then ?_
        refine rg_lit ?_
        refine pV 11 (.bool true) ?_
        refine pl_nil ?_
        refine au_block ?_
        refine au_then ?_
        refine rg_lit ?_
        refine pV 60 (.int .i64 (j : Int)) ?_
        refine pH 61 (.int .i64 ((j + 1 : Nat) : Int)) (iV ((j : Int) + 1) (by omega) (by omega) (by omega)) ?_
        refine pV 12 (.int .i64 ((j + 1 : Nat) : Int)) ?_
        refine nT ?_
        have hz : pq l6 wn (j + 1) = pq l6 wn j := by rw [pq, if_pos c3, if_pos hfb.symm]
        exact ⟨fun k_ => ([.int .i64 ((wn : Nat) : Int), undef, undef, undef, undef, undef, undef, undef, undef, undef, undef, undef, undef, undef, undef, undef, undef, undef, undef, undef, undef, undef, undef, undef, undef, undef, undef, undef, undef, undef, undef, undef, undef, undef, undef, undef, undef, undef, undef, undef, undef, undef, undef, .int .i64 (j : Int), .slice (some ⟨gsb, 0, none⟩) l6.length csb, .int .i64 ((l6.length : Nat) : Int), .bool true, .int .i64 (j : Int), .int .i64 ((j + 1 : Nat) : Int), .slice (some ⟨gsb, 0, none⟩) l6.length csb, .int .i64 (j : Int), .pointer (some ⟨gsb, j, none⟩), .string (tg l6 j), .bool false, yc 67, yc 68, yc 69, yc 70, yc 71, yc 72, yc 73, yc 74, yc 75, yc 76, .int .i64 ((wn : Nat) : Int), .int .i64 ((wn : Nat) : Int), .bool false, .bool false, undef, undef, .bool false, yc 84, yc 85, yc 86, yc 87, yc 88] : List Value).getD (k_ - 13) undef, .slice (some ⟨g9, 0, none⟩) (pq l6 wn j).1.length cap9, true, by kernel_rfl, by rw [hz]; exact hfb, .inr ⟨g9, cap9, Z9, by rw [hz], by rw [hz]; exact hZ9, M⟩⟩
      ·skip
       refine pH 66 (.bool true) (fun w => Eq.trans (b := .ok (.value (.bool (!((tg l6 j).toList == (⟨#[]⟩ : ByteArray).toList)))) w) (by kernel_rfl) (by rw [seq_neg c3]; rfl)) ?_
       refine nT ?_
       refine wp_cond_true (by kernel_rfl) ?_
       refine sR ?_
       refine pV 67 (.slice (some ⟨g9, 0, none⟩) (pq l6 wn j).1.length cap9) ?_
       refine pV 68 (.slice (some ⟨gsb, 0, none⟩) l6.length csb) ?_
       refine pV 69 (.int .i64 (j : Int)) ?_
       refine pH 70 (.pointer (some ⟨gsb, j, none⟩)) (run_ix0 72 9 Tryz.underlying72 inz9 _ _ rfl gsb l6.length csb (by kernel_rfl) .i64 j (by kernel_rfl) (by omega)) ?_
       refine pEz M 71 gsb j (.string (tg l6 j)) (fun w M => hSb.cell (M.get 3 rfl) (vS_at _ _ (by omega))) ?_
       refine pC M 72 49 #[.string (tg l6 j), .int .i64 16] (.int .i64 (dgs 16 (tg l6 j))) (fun w M => d_digits16 (tg l6 j) w M.laid) fun u6 M => ?_
       refine pH 73 (.int .i64 (max (dgs 16 (tg l6 j)) 0)) (fun w => Eq.trans (b := .ok (.value (.int .i64 (if (0 : Int) > (dgs 16 (tg l6 j)) then 0 else (dgs 16 (tg l6 j))))) w) (by kernel_rfl) (by rw [if_max])) ?_
       refine pV 74 (.int .u64 (cv .u64 (max (dgs 16 (tg l6 j)) 0))) ?_
       refine pl_mk M (want_no rfl) (some 75) rfl (fun g3 => .slice (some ⟨g3, 0, none⟩) 1 1) (.cells (av 1 (fun _ => .int .u64 (cv .u64 (max (dgs 16 (tg l6 j)) 0)))) 22) (fun _ => by kernel_rfl) fun g3 u7 M => ?_
       refine pl_appI M (want_no rfl) (some 76) rfl 88 88 22 (.int .u64 0) Tryz.underlying88 info22 rfl 4 g9 ((pq l6 wn j).1.length) cap9 Z9 (v64 (pq l6 wn j).1) rfl hZ9 (v64_len _) (by omega) 5 g3 22 (.int .u64 (cv .u64 (max (dgs 16 (tg l6 j)) 0))) rfl rfl (fun _ => by kernel_rfl) ?_
       intro g8 cap8 Z8 u8 hZ8 M
       refine pV 10 (.slice (some ⟨g8, 0, none⟩) ((pq l6 wn j).1.length + 1) cap8) ?_
       refine nT ?_
       refine wp_exit ?_
       refine au_then_exit ?_
       refine au_block_exit ?_
       refine au_then ?_
       refine rg_lit ?_
       refine pV 60 (.int .i64 (j : Int)) ?_
       refine pH 61 (.int .i64 ((j + 1 : Nat) : Int)) (iV ((j : Int) + 1) (by omega) (by omega) (by omega)) ?_
       refine pV 12 (.int .i64 ((j + 1 : Nat) : Int)) ?_
       refine nT ?_
       have hz : pq l6 wn (j + 1) = ((pq l6 wn j).1 ++ [hdx (tg l6 j)], (pq l6 wn j).2) := if_neg c3
       exact ⟨fun k_ => ([yc 13, undef, undef, undef, undef, undef, undef, undef, undef, undef, undef, undef, undef, undef, undef, undef, undef, undef, undef, undef, undef, undef, undef, undef, undef, undef, undef, undef, undef, undef, undef, undef, undef, undef, undef, undef, undef, undef, undef, undef, undef, undef, undef, .int .i64 (j : Int), .slice (some ⟨gsb, 0, none⟩) l6.length csb, .int .i64 ((l6.length : Nat) : Int), .bool true, .int .i64 (j : Int), .int .i64 ((j + 1 : Nat) : Int), .slice (some ⟨gsb, 0, none⟩) l6.length csb, .int .i64 (j : Int), .pointer (some ⟨gsb, j, none⟩), .string (tg l6 j), .bool true, .slice (some ⟨g9, 0, none⟩) (pq l6 wn j).1.length cap9, .slice (some ⟨gsb, 0, none⟩) l6.length csb, .int .i64 (j : Int), .pointer (some ⟨gsb, j, none⟩), .string (tg l6 j), .int .i64 (dgs 16 (tg l6 j)), .int .i64 (max (dgs 16 (tg l6 j)) 0), .int .u64 (cv .u64 (max (dgs 16 (tg l6 j)) 0)), .slice (some ⟨g3, 0, none⟩) 1 1, .slice (some ⟨g8, 0, none⟩) ((pq l6 wn j).1.length + 1) cap8, yc 77, yc 78, yc 79, yc 80, yc 81, yc 82, yc 83, yc 84, yc 85, yc 86, yc 87, yc 88] : List Value).getD (k_ - 13) undef, .slice (some ⟨g8, 0, none⟩) ((pq l6 wn j).1.length + 1) cap8, true, by kernel_rfl, by rw [hz]; exact hfb, .inr ⟨g8, cap8, Z8, by rw [hz, List.length_append]; rfl, by rw [hz, v64_app]; exact hZ8, M.drop (.cons_cons _ (.cons_cons _ (.cons_cons _ (.cons_cons _ (.cons _ (.cons_cons _ .slnil))))))⟩⟩
     ·skip
      refine wp_seq ?_
      refine sR ?_
      refine pV 56 (.int .i64 (j : Int)) ?_
      refine pV 57 (.slice (some ⟨gsb, 0, none⟩) l6.length csb) ?_
      refine pV 58 (.int .i64 ((l6.length : Nat) : Int)) ?_
      refine pH 59 (.bool true) (dTz ((j : Int) < ((l6.length : Nat) : Int)) (by omega)) ?_
      refine nT ?_
      refine wp_cond_true (by kernel_rfl) ?_
      refine wp_skip ?_
      refine au_then ?_
      refine wp_seq ?_
      refine wp_block ?_
      refine wp_seq ?_
      refine sR ?_
      refine pV 62 (.slice (some ⟨gsb, 0, none⟩) l6.length csb) ?_
      refine pV 63 (.int .i64 (j : Int)) ?_
      refine pH 64 (.pointer (some ⟨gsb, j, none⟩)) (run_ix0 72 9 Tryz.underlying72 inz9 _ _ rfl gsb l6.length csb (by kernel_rfl) .i64 j (by kernel_rfl) (by omega)) ?_
      refine pEz M 65 gsb j (.string (tg l6 j)) (fun w M => hSb.cell (M.get 3 rfl) (vS_at _ _ (by omega))) ?_
      by_cases c3 : (tg l6 j) = (⟨#[]⟩ : ByteArray)
      ·skip
       refine pH 66 (.bool false) (fun w => Eq.trans (b := .ok (.value (.bool (!((tg l6 j).toList == (⟨#[]⟩ : ByteArray).toList)))) w) (by kernel_rfl) (by rw [seq_pos c3]; rfl)) ?_
       refine nT ?_
       refine wp_cond_false (by kernel_rfl) ?_
       refine wp_skip ?_
       refine au_then ?_
       refine wp_seq ?_
       refine sR ?_
       refine pV 77 (.int .i64 ((wn : Nat) : Int)) ?_
       refine pV 13 (.int .i64 ((wn : Nat) : Int)) ?_
       refine nT ?_
       refine wp_block ?_
       refine au_loop (fun i a w' => ∃ (yd : Nat → Value) (tv : Value), a = ⟨#[.string s, undef, .pointer (some ⟨g1, 0, none⟩), .slice (some ⟨gsb, 0, none⟩) l6.length csb, undef, undef, undef, .pointer (some ⟨g2, 0, none⟩), .int .i64 ((wn : Nat) : Int), .int .i64 ((l6.length : Nat) : Int), tv, .bool false, .int .i64 (j : Int), .int .i64 ((wn + i : Nat) : Int), undef, .string s, .slice (some ⟨gsa, 0, none⟩) l4.length csa, .slice (some ⟨gsa, 0, none⟩) l4.length csa, .int .i64 ((l4.length : Nat) : Int), .bool false, undef, undef, undef, undef, undef, undef, undef, undef, undef, undef, undef, undef, undef, undef, undef, undef, undef, undef, undef, undef, .agg (av 3 (ls [.bool true, .int .u64 0, .int .u64 0])), .string s, .slice (some ⟨gsb, 0, none⟩) l6.length csb, .int .i64 ((l6.length : Nat) : Int), .slice (some ⟨gsb, 0, none⟩) l6.length csb, .int .i64 ((l6.length : Nat) : Int), .bool false, v1 47, v1 48, v1 49, v1 50, v1 51, v1 52, v1 53, v1 54, v1 55, .int .i64 (j : Int), .slice (some ⟨gsb, 0, none⟩) l6.length csb, .int .i64 ((l6.length : Nat) : Int), .bool true, yc 60, yc 61, .slice (some ⟨gsb, 0, none⟩) l6.length csb, .int .i64 (j : Int), .pointer (some ⟨gsb, j, none⟩), .string (tg l6 j), .bool false, yc 67, yc 68, yc 69, yc 70, yc 71, yc 72, yc 73, yc 74, yc 75, yc 76, .int .i64 ((wn : Nat) : Int), yd 78, yd 79, yd 80, yd 81, yd 82, yd 83, yd 84, yd 85, yd 86, yd 87, yd 88, undef, undef, undef, undef, undef, undef, undef, undef, undef, undef, undef, undef, undef, undef, undef, undef, undef, undef, undef, undef, undef, undef, undef, undef, undef, undef, undef, undef, undef, undef, undef, undef, undef, undef, undef, undef, undef, undef, undef], []⟩ ∧ TSn ⟨w, []⟩ [⟨g1, .cells (av 3 (ls [.bool false, .int .u64 0, .int .u64 0])) 24⟩, ⟨gsa, Zsa⟩, ⟨g2, .cells (av 3 (ls [.bool true, .int .u64 0, .int .u64 0])) 24⟩, ⟨gsb, Zsb⟩] w' tv ((pq l6 wn j).1 ++ List.replicate i 0)) (8 - wn) ⟨fun k_ => ([yc 78, yc 79, yc 80, yc 81, yc 82, yc 83, yc 84, yc 85, yc 86, yc 87, yc 88] : List Value).getD (k_ - 78) undef, _, by kernel_rfl, .inr ⟨g9, cap9, Z9, by rw [List.replicate_zero, List.append_nil], by rw [List.replicate_zero, List.append_nil]; exact hZ9, M⟩⟩ ?_ ?_
       ·intro i a u0 hi hI
        obtain ⟨yd, tv, rfl, hT⟩ := hI
        rcases hT with ⟨hnil7, rfl, M⟩ | ⟨g7, cap7, Z7, rfl, hZ7, M⟩
        ·skip
         refine wp_seq ?_
         refine sR ?_
         refine pV 78 (.int .i64 ((wn + i : Nat) : Int)) ?_
         refine pH 79 (.bool true) (dTz (((wn + i : Nat) : Int) < 8) (by omega)) ?_
         refine pV 80 (.bool true) ?_
         refine pl_val (want_on 2 true rfl 80 rfl (by kernel_rfl)) (some 81) rfl (.bool false) (fun _ => by kernel_rfl) ?_
         refine pl_val (want_on 2 true rfl 80 rfl (by kernel_rfl)) (some 82) rfl (.bool true) (fun _ => by kernel_rfl) ?_
         refine pV 83 (.bool true) ?_
         refine nT ?_
         refine wp_cond_true (by kernel_rfl) ?_
         refine wp_skip ?_
         refine au_then ?_
         refine wp_seq ?_
         refine wp_block ?_
         refine rg_lit ?_
         refine pV 86 (.slice none 0 0) ?_
         refine pl_mk M (want_no rfl) (some 87) rfl (fun g3 => .slice (some ⟨g3, 0, none⟩) 1 1) (.cells (av 1 (fun _ => .int .u64 0)) 22) (fun _ => by kernel_rfl) fun g3 u6 M => ?_
         refine pl_app0I M (want_no rfl) (some 88) rfl 88 88 22 (.int .u64 0) Tryz.underlying88 info22 rfl 4 g3 22 (.int .u64 0) rfl (fun _ => by kernel_rfl) ?_
         intro g8 cap8 Z8 u7 hZ8 M
         refine pV 10 (.slice (some ⟨g8, 0, none⟩) 1 cap8) ?_
         refine pl_nil ?_
         refine au_block ?_
         refine au_then ?_
         refine rg_lit ?_
         refine pV 84 (.int .i64 ((wn + i : Nat) : Int)) ?_
         refine pH 85 (.int .i64 ((wn + (i + 1) : Nat) : Int)) (iV (((wn + i : Nat) : Int) + 1) (by omega) (by omega) (by omega)) ?_
         refine pV 13 (.int .i64 ((wn + (i + 1) : Nat) : Int)) ?_
         refine nT ?_
         have hr : (pq l6 wn j).1 ++ List.replicate (i + 1) 0 = ((pq l6 wn j).1 ++ List.replicate i 0) ++ [0] := by rw [List.replicate_succ', List.append_assoc]
         exact ⟨fun k_ => ([.int .i64 ((wn + i : Nat) : Int), .bool true, .bool true, .bool false, .bool true, .bool true, .int .i64 ((wn + i : Nat) : Int), .int .i64 ((wn + (i + 1) : Nat) : Int), .slice none 0 0, .slice (some ⟨g3, 0, none⟩) 1 1, .slice (some ⟨g8, 0, none⟩) 1 cap8] : List Value).getD (k_ - 78) undef, .slice (some ⟨g8, 0, none⟩) 1 cap8, by kernel_rfl, .inr ⟨g8, cap8, Z8, by rw [hr, hnil7]; rfl, by rw [hr, hnil7]; exact hZ8, M.drop (.cons_cons _ (.cons_cons _ (.cons_cons _ (.cons_cons _ (.cons _ (.cons_cons _ .slnil))))))⟩⟩
        ·skip
         refine wp_seq ?_
         refine sR ?_
         refine pV 78 (.int .i64 ((wn + i : Nat) : Int)) ?_
         refine pH 79 (.bool true) (dTz (((wn + i : Nat) : Int) < 8) (by omega)) ?_
         refine pV 80 (.bool true) ?_
         refine pl_val (want_on 2 true rfl 80 rfl (by kernel_rfl)) (some 81) rfl (.bool false) (fun _ => by kernel_rfl) ?_
         refine pl_val (want_on 2 true rfl 80 rfl (by kernel_rfl)) (some 82) rfl (.bool true) (fun _ => by kernel_rfl) ?_
         refine pV 83 (.bool true) ?_
         refine nT ?_
         refine wp_cond_true (by kernel_rfl) ?_
         refine wp_skip ?_
         refine au_then ?_
         refine wp_seq ?_
         refine wp_block ?_
         refine rg_lit ?_
         refine pV 86 (.slice (some ⟨g7, 0, none⟩) ((pq l6 wn j).1 ++ List.replicate i 0).length cap7) ?_
         refine pl_mk M (want_no rfl) (some 87) rfl (fun g3 => .slice (some ⟨g3, 0, none⟩) 1 1) (.cells (av 1 (fun _ => .int .u64 0)) 22) (fun _ => by kernel_rfl) fun g3 u6 M => ?_
         refine pl_appI M (want_no rfl) (some 88) rfl 88 88 22 (.int .u64 0) Tryz.underlying88 info22 rfl 4 g7 (((pq l6 wn j).1 ++ List.replicate i 0).length) cap7 Z7 (v64 ((pq l6 wn j).1 ++ List.replicate i 0)) rfl hZ7 (v64_len _) (by rw [List.length_append, List.length_replicate]; omega) 5 g3 22 (.int .u64 0) rfl rfl (fun _ => by kernel_rfl) ?_
         intro g8 cap8 Z8 u7 hZ8 M
         refine pV 10 (.slice (some ⟨g8, 0, none⟩) (((pq l6 wn j).1 ++ List.replicate i 0).length + 1) cap8) ?_
         refine pl_nil ?_
         refine au_block ?_
         refine au_then ?_
         refine rg_lit ?_
         refine pV 84 (.int .i64 ((wn + i : Nat) : Int)) ?_
         refine pH 85 (.int .i64 ((wn + (i + 1) : Nat) : Int)) (iV (((wn + i : Nat) : Int) + 1) (by omega) (by omega) (by omega)) ?_
         refine pV 13 (.int .i64 ((wn + (i + 1) : Nat) : Int)) ?_
         refine nT ?_
         have hr : (pq l6 wn j).1 ++ List.replicate (i + 1) 0 = ((pq l6 wn j).1 ++ List.replicate i 0) ++ [0] := by rw [List.replicate_succ', List.append_assoc]
         exact ⟨fun k_ => ([.int .i64 ((wn + i : Nat) : Int), .bool true, .bool true, .bool false, .bool true, .bool true, .int .i64 ((wn + i : Nat) : Int), .int .i64 ((wn + (i + 1) : Nat) : Int), .slice (some ⟨g7, 0, none⟩) ((pq l6 wn j).1 ++ List.replicate i 0).length cap7, .slice (some ⟨g3, 0, none⟩) 1 1, .slice (some ⟨g8, 0, none⟩) (((pq l6 wn j).1 ++ List.replicate i 0).length + 1) cap8] : List Value).getD (k_ - 78) undef, .slice (some ⟨g8, 0, none⟩) (((pq l6 wn j).1 ++ List.replicate i 0).length + 1) cap8, by kernel_rfl, .inr ⟨g8, cap8, Z8, by rw [hr, len_app1], by rw [hr, v64_app]; exact hZ8, M.drop (.cons_cons _ (.cons_cons _ (.cons_cons _ (.cons_cons _ (.cons _ (.cons_cons _ .slnil))))))⟩⟩
       ·intro a u0 hI
        obtain ⟨yd, tv, rfl, hT⟩ := hI
        rcases hT with ⟨hnil7, rfl, M⟩ | ⟨g7, cap7, Z7, rfl, hZ7, M⟩
        ·skip
         refine wp_seq ?_
         refine sR ?_
         refine pV 78 (.int .i64 ((wn + (8 - wn) : Nat) : Int)) ?_
         refine pH 79 (.bool false) (dF (((wn + (8 - wn) : Nat) : Int) < 8) (by omega)) ?_
         refine pV 80 (.bool false) ?_
         refine pl_skip (want_off 2 true rfl 80 rfl (by kernel_rfl)) (some 81) rfl ?_
         refine pl_skip (want_off 2 true rfl 80 rfl (by kernel_rfl)) (some 82) rfl ?_
         refine pV 83 (.bool false) ?_
         refine nT ?_
         refine wp_cond_false (by kernel_rfl) ?_
         refine wp_exit ?_
         refine au_then_exit ?_
         refine au_then_exit ?_
         refine au_block_exit ?_
         refine au_then ?_
         refine rg_lit ?_
         refine pV 11 (.bool true) ?_
         refine pl_nil ?_
         refine au_block ?_
         refine au_then ?_
         refine rg_lit ?_
         refine pV 60 (.int .i64 (j : Int)) ?_
         refine pH 61 (.int .i64 ((j + 1 : Nat) : Int)) (iV ((j : Int) + 1) (by omega) (by omega) (by omega)) ?_
         refine pV 12 (.int .i64 ((j + 1 : Nat) : Int)) ?_
         refine nT ?_
         have hz : pq l6 wn (j + 1) = ((pq l6 wn j).1 ++ List.replicate (8 - wn) 0, true) := by rw [pq, if_pos c3, if_neg (by rw [← hfb]; decide)]
         exact ⟨fun k_ => ([.int .i64 ((wn + (8 - wn) : Nat) : Int), undef, undef, undef, undef, undef, undef, undef, undef, undef, undef, undef, undef, undef, undef, undef, undef, undef, undef, undef, undef, undef, undef, undef, undef, undef, undef, undef, undef, undef, undef, undef, undef, undef, undef, undef, undef, undef, undef, undef, undef, undef, undef, .int .i64 (j : Int), .slice (some ⟨gsb, 0, none⟩) l6.length csb, .int .i64 ((l6.length : Nat) : Int), .bool true, .int .i64 (j : Int), .int .i64 ((j + 1 : Nat) : Int), .slice (some ⟨gsb, 0, none⟩) l6.length csb, .int .i64 (j : Int), .pointer (some ⟨gsb, j, none⟩), .string (tg l6 j), .bool false, yc 67, yc 68, yc 69, yc 70, yc 71, yc 72, yc 73, yc 74, yc 75, yc 76, .int .i64 ((wn : Nat) : Int), .int .i64 ((wn + (8 - wn) : Nat) : Int), .bool false, .bool false, undef, undef, .bool false, yd 84, yd 85, yd 86, yd 87, yd 88] : List Value).getD (k_ - 13) undef, .slice none 0 0, true, by kernel_rfl, by rw [hz], .inl ⟨by rw [hz]; exact hnil7, rfl, M⟩⟩
        ·skip
         refine wp_seq ?_
         refine sR ?_
         refine pV 78 (.int .i64 ((wn + (8 - wn) : Nat) : Int)) ?_
         refine pH 79 (.bool false) (dF (((wn + (8 - wn) : Nat) : Int) < 8) (by omega)) ?_
         refine pV 80 (.bool false) ?_
         refine pl_skip (want_off 2 true rfl 80 rfl (by kernel_rfl)) (some 81) rfl ?_
         refine pl_skip (want_off 2 true rfl 80 rfl (by kernel_rfl)) (some 82) rfl ?_
         refine pV 83 (.bool false) ?_
         refine nT ?_
         refine wp_cond_false (by kernel_rfl) ?_
         refine wp_exit ?_
         refine au_then_exit ?_
         refine au_then_exit ?_
         refine au_block_exit ?_
         refine au_then ?_
         refine rg_lit ?_
         refine pV 11 (.bool true) ?_
         refine pl_nil ?_
         refine au_block ?_
         refine au_then ?_
         refine rg_lit ?_
         refine pV 60 (.int .i64 (j : Int)) ?_
         refine pH 61 (.int .i64 ((j + 1 : Nat) : Int)) (iV ((j : Int) + 1) (by omega) (by omega) (by omega)) ?_
         refine pV 12 (.int .i64 ((j + 1 : Nat) : Int)) ?_
         refine nT ?_
         have hz : pq l6 wn (j + 1) = ((pq l6 wn j).1 ++ List.replicate (8 - wn) 0, true) := by rw [pq, if_pos c3, if_neg (by rw [← hfb]; decide)]
         exact ⟨fun k_ => ([.int .i64 ((wn + (8 - wn) : Nat) : Int), undef, undef, undef, undef, undef, undef, undef, undef, undef, undef, undef, undef, undef, undef, undef, undef, undef, undef, undef, undef, undef, undef, undef, undef, undef, undef, undef, undef, undef, undef, undef, undef, undef, undef, undef, undef, undef, undef, undef, undef, undef, undef, .int .i64 (j : Int), .slice (some ⟨gsb, 0, none⟩) l6.length csb, .int .i64 ((l6.length : Nat) : Int), .bool true, .int .i64 (j : Int), .int .i64 ((j + 1 : Nat) : Int), .slice (some ⟨gsb, 0, none⟩) l6.length csb, .int .i64 (j : Int), .pointer (some ⟨gsb, j, none⟩), .string (tg l6 j), .bool false, yc 67, yc 68, yc 69, yc 70, yc 71, yc 72, yc 73, yc 74, yc 75, yc 76, .int .i64 ((wn : Nat) : Int), .int .i64 ((wn + (8 - wn) : Nat) : Int), .bool false, .bool false, undef, undef, .bool false, yd 84, yd 85, yd 86, yd 87, yd 88] : List Value).getD (k_ - 13) undef, .slice (some ⟨g7, 0, none⟩) ((pq l6 wn j).1 ++ List.replicate (8 - wn) 0).length cap7, true, by kernel_rfl, by rw [hz], .inr ⟨g7, cap7, Z7, by rw [hz], by rw [hz]; exact hZ7, M⟩⟩
      ·skip
       refine pH 66 (.bool true) (fun w => Eq.trans (b := .ok (.value (.bool (!((tg l6 j).toList == (⟨#[]⟩ : ByteArray).toList)))) w) (by kernel_rfl) (by rw [seq_neg c3]; rfl)) ?_
       refine nT ?_
       refine wp_cond_true (by kernel_rfl) ?_
       refine sR ?_
       refine pV 67 (.slice (some ⟨g9, 0, none⟩) (pq l6 wn j).1.length cap9) ?_
       refine pV 68 (.slice (some ⟨gsb, 0, none⟩) l6.length csb) ?_
       refine pV 69 (.int .i64 (j : Int)) ?_
       refine pH 70 (.pointer (some ⟨gsb, j, none⟩)) (run_ix0 72 9 Tryz.underlying72 inz9 _ _ rfl gsb l6.length csb (by kernel_rfl) .i64 j (by kernel_rfl) (by omega)) ?_
       refine pEz M 71 gsb j (.string (tg l6 j)) (fun w M => hSb.cell (M.get 3 rfl) (vS_at _ _ (by omega))) ?_
       refine pC M 72 49 #[.string (tg l6 j), .int .i64 16] (.int .i64 (dgs 16 (tg l6 j))) (fun w M => d_digits16 (tg l6 j) w M.laid) fun u6 M => ?_
       refine pH 73 (.int .i64 (max (dgs 16 (tg l6 j)) 0)) (fun w => Eq.trans (b := .ok (.value (.int .i64 (if (0 : Int) > (dgs 16 (tg l6 j)) then 0 else (dgs 16 (tg l6 j))))) w) (by kernel_rfl) (by rw [if_max])) ?_
       refine pV 74 (.int .u64 (cv .u64 (max (dgs 16 (tg l6 j)) 0))) ?_
       refine pl_mk M (want_no rfl) (some 75) rfl (fun g3 => .slice (some ⟨g3, 0, none⟩) 1 1) (.cells (av 1 (fun _ => .int .u64 (cv .u64 (max (dgs 16 (tg l6 j)) 0)))) 22) (fun _ => by kernel_rfl) fun g3 u7 M => ?_
       refine pl_appI M (want_no rfl) (some 76) rfl 88 88 22 (.int .u64 0) Tryz.underlying88 info22 rfl 4 g9 ((pq l6 wn j).1.length) cap9 Z9 (v64 (pq l6 wn j).1) rfl hZ9 (v64_len _) (by omega) 5 g3 22 (.int .u64 (cv .u64 (max (dgs 16 (tg l6 j)) 0))) rfl rfl (fun _ => by kernel_rfl) ?_
       intro g8 cap8 Z8 u8 hZ8 M
       refine pV 10 (.slice (some ⟨g8, 0, none⟩) ((pq l6 wn j).1.length + 1) cap8) ?_
       refine nT ?_
       refine wp_exit ?_
       refine au_then_exit ?_
       refine au_block_exit ?_
       refine au_then ?_
       refine rg_lit ?_
       refine pV 60 (.int .i64 (j : Int)) ?_
       refine pH 61 (.int .i64 ((j + 1 : Nat) : Int)) (iV ((j : Int) + 1) (by omega) (by omega) (by omega)) ?_
       refine pV 12 (.int .i64 ((j + 1 : Nat) : Int)) ?_
       refine nT ?_
       have hz : pq l6 wn (j + 1) = ((pq l6 wn j).1 ++ [hdx (tg l6 j)], (pq l6 wn j).2) := if_neg c3
       exact ⟨fun k_ => ([yc 13, undef, undef, undef, undef, undef, undef, undef, undef, undef, undef, undef, undef, undef, undef, undef, undef, undef, undef, undef, undef, undef, undef, undef, undef, undef, undef, undef, undef, undef, undef, undef, undef, undef, undef, undef, undef, undef, undef, undef, undef, undef, undef, .int .i64 (j : Int), .slice (some ⟨gsb, 0, none⟩) l6.length csb, .int .i64 ((l6.length : Nat) : Int), .bool true, .int .i64 (j : Int), .int .i64 ((j + 1 : Nat) : Int), .slice (some ⟨gsb, 0, none⟩) l6.length csb, .int .i64 (j : Int), .pointer (some ⟨gsb, j, none⟩), .string (tg l6 j), .bool true, .slice (some ⟨g9, 0, none⟩) (pq l6 wn j).1.length cap9, .slice (some ⟨gsb, 0, none⟩) l6.length csb, .int .i64 (j : Int), .pointer (some ⟨gsb, j, none⟩), .string (tg l6 j), .int .i64 (dgs 16 (tg l6 j)), .int .i64 (max (dgs 16 (tg l6 j)) 0), .int .u64 (cv .u64 (max (dgs 16 (tg l6 j)) 0)), .slice (some ⟨g3, 0, none⟩) 1 1, .slice (some ⟨g8, 0, none⟩) ((pq l6 wn j).1.length + 1) cap8, yc 77, yc 78, yc 79, yc 80, yc 81, yc 82, yc 83, yc 84, yc 85, yc 86, yc 87, yc 88] : List Value).getD (k_ - 13) undef, .slice (some ⟨g8, 0, none⟩) ((pq l6 wn j).1.length + 1) cap8, false, by kernel_rfl, by rw [hz]; exact hfb, .inr ⟨g8, cap8, Z8, by rw [hz, List.length_append]; rfl, by rw [hz, v64_app]; exact hZ8, M.drop (.cons_cons _ (.cons_cons _ (.cons_cons _ (.cons_cons _ (.cons _ (.cons_cons _ .slnil))))))⟩⟩
   ·intro a u0 hI
    obtain ⟨yc, tv, fb, rfl, hfb, hT⟩ := hI
    have hq := pq_le l6 wn l6.length
    rcases hT with ⟨hnil, rfl, M⟩ | ⟨g9, cap9, Z9, rfl, hZ9, M⟩
    ·skip
     refine wp_seq ?_
     refine sR ?_
     refine pV 56 (.int .i64 ((l6.length : Nat) : Int)) ?_
     refine pV 57 (.slice (some ⟨gsb, 0, none⟩) l6.length csb) ?_
     refine pV 58 (.int .i64 ((l6.length : Nat) : Int)) ?_
     refine pH 59 (.bool false) (dF (((l6.length : Nat) : Int) < ((l6.length : Nat) : Int)) (by omega)) ?_
     refine nT ?_
     refine wp_cond_false (by kernel_rfl) ?_
     refine wp_exit ?_
     refine au_then_exit ?_
     refine au_then_exit ?_
     refine au_block_exit ?_
     refine au_then ?_
     refine wp_seq ?_
     refine sR ?_
     refine pV 14 (.int .i64 0) ?_
     refine nT ?_
     refine wp_block ?_
     refine wp_loop_rounds 1 ?_
     refine rounds_go ?_
     refine wp_seq ?_
     refine sR ?_
     refine pV 89 (.int .i64 0) ?_
     refine pV 90 (.bool true) ?_
     refine pV 91 (.bool true) ?_
     refine pl_val (want_on 2 true rfl 91 rfl (by kernel_rfl)) (some 92) rfl (.int .i64 0) (fun _ => by kernel_rfl) ?_
     refine pl_val (want_on 2 true rfl 91 rfl (by kernel_rfl)) (some 93) rfl (.slice none 0 0) (fun _ => by kernel_rfl) ?_
     refine pl_val (want_on 2 true rfl 91 rfl (by kernel_rfl)) (some 94) rfl (.int .i64 0) (fun _ => by kernel_rfl) ?_
     refine pl_val (want_on 2 true rfl 91 rfl (by kernel_rfl)) (some 95) rfl (.bool false) (fun _ => by kernel_rfl) ?_
     refine pV 96 (.bool false) ?_
     refine nT ?_
     refine wp_cond_false (by kernel_rfl) ?_
     refine wp_exit ?_
     refine au_then_exit ?_
     refine au_then_exit ?_
     refine au_block_exit ?_
     refine au_then ?_
     refine sR ?_
     refine pAz M 127 2 3 (ls [.bool true, .int .u64 0, .int .u64 0]) ?_
     refine pl_put M (want_no rfl) rfl 24 _ _ rfl 0 g1 0 (by kernel_rfl) 3 24 (ls [.bool false, .int .u64 0, .int .u64 0]) rfl 3 (ls [.bool true, .int .u64 0, .int .u64 0]) (ls [.bool true, .int .u64 0, .int .u64 0]) (by kernel_rfl) inz24 (by decide) (one_ls _ rfl) (fun j hj => by rw [if_pos (by omega), Nat.sub_zero]) fun u6 M => ?_
     refine nT ?_
     refine wp_ret ?_
     have e0 : gV l4 = true := if_neg c0
     have e1 : (gH l4 l6) = 0 := by unfold gH gP; rw [if_neg c0, hwn, hnil]; rfl
     have e2 : (gL l4 l6) = 0 := by unfold gL gP; rw [if_neg c0, hwn, hnil]; rfl
     exact bodyPost_ret (v := .agg (av 3 (ls [.bool true, .int .u64 0, .int .u64 0]))) (results_cell_row Tryz.results45 _ _ g1 24 (av 3 (ls [.bool true, .int .u64 0, .int .u64 0])) (0, 0) _ (by kernel_rfl) (M.get 0 rfl) Tryz.underlying24 rfl (by rw [av_size]; exact inz24)) (by kernel_rfl) ⟨by rw [e0, e1, e2], below_grown M.old⟩
    ·skip
     refine wp_seq ?_
     refine sR ?_
     refine pV 56 (.int .i64 ((l6.length : Nat) : Int)) ?_
     refine pV 57 (.slice (some ⟨gsb, 0, none⟩) l6.length csb) ?_
     refine pV 58 (.int .i64 ((l6.length : Nat) : Int)) ?_
     refine pH 59 (.bool false) (dF (((l6.length : Nat) : Int) < ((l6.length : Nat) : Int)) (by omega)) ?_
     refine nT ?_
     refine wp_cond_false (by kernel_rfl) ?_
     refine wp_exit ?_
     refine au_then_exit ?_
     refine au_then_exit ?_
     refine au_block_exit ?_
     refine au_then ?_
     refine wp_seq ?_
     refine sR ?_
     refine pV 14 (.int .i64 0) ?_
     refine nT ?_
     refine wp_block ?_
     refine au_loop (fun i a w' => ∃ v2 : Nat → Value, a = ⟨#[.string s, undef, .pointer (some ⟨g1, 0, none⟩), .slice (some ⟨gsb, 0, none⟩) l6.length csb, undef, undef, undef, .pointer (some ⟨g2, 0, none⟩), .int .i64 ((wn : Nat) : Int), .int .i64 ((l6.length : Nat) : Int), .slice (some ⟨g9, 0, none⟩) (pq l6 wn l6.length).1.length cap9, .bool (fb), .int .i64 ((l6.length : Nat) : Int), yc 13, .int .i64 (i : Int), .string s, .slice (some ⟨gsa, 0, none⟩) l4.length csa, .slice (some ⟨gsa, 0, none⟩) l4.length csa, .int .i64 ((l4.length : Nat) : Int), .bool false, undef, undef, undef, undef, undef, undef, undef, undef, undef, undef, undef, undef, undef, undef, undef, undef, undef, undef, undef, undef, .agg (av 3 (ls [.bool true, .int .u64 0, .int .u64 0])), .string s, .slice (some ⟨gsb, 0, none⟩) l6.length csb, .int .i64 ((l6.length : Nat) : Int), .slice (some ⟨gsb, 0, none⟩) l6.length csb, .int .i64 ((l6.length : Nat) : Int), .bool false, v1 47, v1 48, v1 49, v1 50, v1 51, v1 52, v1 53, v1 54, v1 55, .int .i64 ((l6.length : Nat) : Int), .slice (some ⟨gsb, 0, none⟩) l6.length csb, .int .i64 ((l6.length : Nat) : Int), .bool false, yc 60, yc 61, yc 62, yc 63, yc 64, yc 65, yc 66, yc 67, yc 68, yc 69, yc 70, yc 71, yc 72, yc 73, yc 74, yc 75, yc 76, yc 77, yc 78, yc 79, yc 80, yc 81, yc 82, yc 83, yc 84, yc 85, yc 86, yc 87, yc 88, v2 89, v2 90, v2 91, v2 92, v2 93, v2 94, v2 95, v2 96, v2 97, v2 98, v2 99, v2 100, v2 101, v2 102, v2 103, v2 104, v2 105, v2 106, v2 107, v2 108, v2 109, v2 110, v2 111, v2 112, v2 113, v2 114, v2 115, v2 116, v2 117, v2 118, v2 119, v2 120, v2 121, v2 122, v2 123, v2 124, v2 125, v2 126, undef], []⟩ ∧ Mem ⟨w, []⟩ [⟨g1, .cells (av 3 (ls [.bool false, .int .u64 0, .int .u64 0])) 24⟩, ⟨gsa, Zsa⟩, ⟨g2, .cells (av 3 (ls [.bool true, .int .u64 (hl (pq l6 wn l6.length).1 i).1, .int .u64 (hl (pq l6 wn l6.length).1 i).2])) 24⟩, ⟨gsb, Zsb⟩, ⟨g9, Z9⟩] w') (min 8 (pq l6 wn l6.length).1.length) ⟨fun k_ => ([undef, undef, undef, undef, undef, undef, undef, undef, undef, undef, undef, undef, undef, undef, undef, undef, undef, undef, undef, undef, undef, undef, undef, undef, undef, undef, undef, undef, undef, undef, undef, undef, undef, undef, undef, undef, undef, undef] : List Value).getD (k_ - 89) undef, by kernel_rfl, M⟩ ?_ ?_
     ·intro i a u0 hi hI
      obtain ⟨v2, rfl, M⟩ := hI
      refine wp_seq ?_
      refine sR ?_
      refine pV 89 (.int .i64 (i : Int)) ?_
      refine pH 90 (.bool true) (dTz ((i : Int) < 8) (by omega)) ?_
      refine pV 91 (.bool true) ?_
      refine pl_val (want_on 2 true rfl 91 rfl (by kernel_rfl)) (some 92) rfl (.int .i64 (i : Int)) (fun _ => by kernel_rfl) ?_
      refine pl_val (want_on 2 true rfl 91 rfl (by kernel_rfl)) (some 93) rfl (.slice (some ⟨g9, 0, none⟩) (pq l6 wn l6.length).1.length cap9) (fun _ => by kernel_rfl) ?_
      refine pl_val (want_on 2 true rfl 91 rfl (by kernel_rfl)) (some 94) rfl (.int .i64 (((pq l6 wn l6.length).1.length : Nat) : Int)) (fun _ => by kernel_rfl) ?_
      refine pl_val (want_on 2 true rfl 91 rfl (by kernel_rfl)) (some 95) rfl (.bool true) (fun w => Eq.trans (b := .ok (.value (.bool (decide ((i : Int) < (((pq l6 wn l6.length).1.length : Nat) : Int))))) w) (by kernel_rfl) (by rw [decide_eq_true (by omega)])) ?_
      refine pV 96 (.bool true) ?_
      refine nT ?_
      refine wp_cond_true (by kernel_rfl) ?_
      refine wp_skip ?_
      refine au_then ?_
      refine wp_seq ?_
      refine wp_block ?_
      refine sR ?_
      refine pV 99 (.int .i64 (i : Int)) ?_
      by_cases c2 : (i : Int) < 4
      ·skip
       refine pH 100 (.bool true) (dTz ((i : Int) < 4) (c2)) ?_
       refine nT ?_
       refine wp_cond_true (by kernel_rfl) ?_
       refine rg_tail M 13 (by kernel_rfl) (by kernel_rfl) ?_
       simp only [List.take_succ_cons, List.take_zero]
       refine kV 101 (.pointer (some ⟨g2, 1, none⟩)) ?_
       refine kE M 102 g2 1 (.int .u64 (hl (pq l6 wn l6.length).1 i).1) (fun w M => M.cell 2 rfl (by decide) rfl) ?_
       refine kV 103 (.slice (some ⟨g9, 0, none⟩) (pq l6 wn l6.length).1.length cap9) ?_
       refine kV 104 (.int .i64 (i : Int)) ?_
       refine kH 105 (.pointer (some ⟨g9, i, none⟩)) (run_ix0 88 22 Tryz.underlying88 inz22 _ _ rfl g9 ((pq l6 wn l6.length).1.length) cap9 (by kernel_rfl) .i64 i (by kernel_rfl) (by omega)) ?_
       refine kE M 106 g9 i (.int .u64 (tgi (pq l6 wn l6.length).1 i)) (fun w M => hZ9.cell (M.get 4 rfl) (v64_at _ _ (by omega))) ?_
       refine kV 107 (.int .i64 (i : Int)) ?_
       refine kH 108 (.int .i64 (16 * (i : Int))) (fun w => Eq.trans (b := .ok (.value (.int .i64 (cv .i64 (16 * (i : Int))))) w) (by kernel_rfl) (by rw [cv_i64 (by omega) (by omega)])) ?_
       refine kH 109 (.int .i64 (48 - 16 * (i : Int))) (fun w => Eq.trans (b := .ok (.value (.int .i64 (cv .i64 (48 - 16 * (i : Int))))) w) (by kernel_rfl) (by rw [cv_i64 (by omega) (by omega)])) ?_
       refine kH 110 (.int .u64 (48 - 16 * (i : Int))) (fun w => Eq.trans (b := .ok (.value (.int .u64 (cv .u64 (48 - 16 * (i : Int))))) w) (by kernel_rfl) (by rw [cv_u64]; congr 3; omega)) ?_
       refine kH 111 (.int .u64 (sl (tgi (pq l6 wn l6.length).1 i) ((48 - 16 * (i : Int)).toNat))) (run_shlV 22 53 _ _ rfl (tgi (pq l6 wn l6.length).1 i) .u64 ((48 - 16 * (i : Int)).toNat) (by kernel_rfl) (nat_of (k := .u64) (by kernel_rfl) (by omega))) ?_
       refine kV 112 (.int .u64 (uo (hl (pq l6 wn l6.length).1 i).1 (sl (tgi (pq l6 wn l6.length).1 i) ((48 - 16 * (i : Int)).toNat)))) ?_
       refine kV 113 (.pointer (some ⟨g2, 1, none⟩)) ?_
       refine kl_nil fun u6 M => ?_
       refine pP M 2 rfl 1 (.int .u64 (uo (hl (pq l6 wn l6.length).1 i).1 (sl (tgi (pq l6 wn l6.length).1 i) ((48 - 16 * (i : Int)).toNat)))) (ls [.bool true, .int .u64 (uo (hl (pq l6 wn l6.length).1 i).1 (sl (tgi (pq l6 wn l6.length).1 i) ((48 - 16 * (i : Int)).toNat))), .int .u64 (hl (pq l6 wn l6.length).1 i).2]) (by decide) (put_ls _ 1 _ _ rfl) fun u7 M => ?_
       refine pl_nil ?_
       refine au_block ?_
       refine au_then ?_
       refine rg_lit ?_
       refine pV 97 (.int .i64 (i : Int)) ?_
       refine pH 98 (.int .i64 ((i + 1 : Nat) : Int)) (iV ((i : Int) + 1) (by omega) (by omega) (by omega)) ?_
       refine pV 14 (.int .i64 ((i + 1 : Nat) : Int)) ?_
       refine nT ?_
       have hz := hl_a (pq l6 wn l6.length).1 i c2
       exact ⟨fun k_ => ([.int .i64 (i : Int), .bool true, .bool true, .int .i64 (i : Int), .slice (some ⟨g9, 0, none⟩) (pq l6 wn l6.length).1.length cap9, .int .i64 (((pq l6 wn l6.length).1.length : Nat) : Int), .bool true, .bool true, .int .i64 (i : Int), .int .i64 ((i + 1 : Nat) : Int), .int .i64 (i : Int), .bool true, .pointer (some ⟨g2, 1, none⟩), .int .u64 (hl (pq l6 wn l6.length).1 i).1, .slice (some ⟨g9, 0, none⟩) (pq l6 wn l6.length).1.length cap9, .int .i64 (i : Int), .pointer (some ⟨g9, i, none⟩), .int .u64 (tgi (pq l6 wn l6.length).1 i), .int .i64 (i : Int), .int .i64 (16 * (i : Int)), .int .i64 (48 - 16 * (i : Int)), .int .u64 (48 - 16 * (i : Int)), .int .u64 (sl (tgi (pq l6 wn l6.length).1 i) ((48 - 16 * (i : Int)).toNat)), .int .u64 (uo (hl (pq l6 wn l6.length).1 i).1 (sl (tgi (pq l6 wn l6.length).1 i) ((48 - 16 * (i : Int)).toNat))), .pointer (some ⟨g2, 1, none⟩), v2 114, v2 115, v2 116, v2 117, v2 118, v2 119, v2 120, v2 121, v2 122, v2 123, v2 124, v2 125, v2 126] : List Value).getD (k_ - 89) undef, by kernel_rfl, (by rw [hz]; exact M)⟩
      ·skip
       refine pH 100 (.bool false) (dF ((i : Int) < 4) (c2)) ?_
       refine nT ?_
       refine wp_cond_false (by kernel_rfl) ?_
       refine rg_tail M 13 (by kernel_rfl) (by kernel_rfl) ?_
       simp only [List.take_succ_cons, List.take_zero]
       refine kV 114 (.pointer (some ⟨g2, 2, none⟩)) ?_
       refine kE M 115 g2 2 (.int .u64 (hl (pq l6 wn l6.length).1 i).2) (fun w M => M.cell 2 rfl (by decide) rfl) ?_
       refine kV 116 (.slice (some ⟨g9, 0, none⟩) (pq l6 wn l6.length).1.length cap9) ?_
       refine kV 117 (.int .i64 (i : Int)) ?_
       refine kH 118 (.pointer (some ⟨g9, i, none⟩)) (run_ix0 88 22 Tryz.underlying88 inz22 _ _ rfl g9 ((pq l6 wn l6.length).1.length) cap9 (by kernel_rfl) .i64 i (by kernel_rfl) (by omega)) ?_
       refine kE M 119 g9 i (.int .u64 (tgi (pq l6 wn l6.length).1 i)) (fun w M => hZ9.cell (M.get 4 rfl) (v64_at _ _ (by omega))) ?_
       refine kV 120 (.int .i64 (i : Int)) ?_
       refine kH 121 (.int .i64 (16 * (i : Int))) (fun w => Eq.trans (b := .ok (.value (.int .i64 (cv .i64 (16 * (i : Int))))) w) (by kernel_rfl) (by rw [cv_i64 (by omega) (by omega)])) ?_
       refine kH 122 (.int .i64 (112 - 16 * (i : Int))) (fun w => Eq.trans (b := .ok (.value (.int .i64 (cv .i64 (112 - 16 * (i : Int))))) w) (by kernel_rfl) (by rw [cv_i64 (by omega) (by omega)])) ?_
       refine kH 123 (.int .u64 (112 - 16 * (i : Int))) (fun w => Eq.trans (b := .ok (.value (.int .u64 (cv .u64 (112 - 16 * (i : Int))))) w) (by kernel_rfl) (by rw [cv_u64]; congr 3; omega)) ?_
       refine kH 124 (.int .u64 (sl (tgi (pq l6 wn l6.length).1 i) ((112 - 16 * (i : Int)).toNat))) (run_shlV 22 53 _ _ rfl (tgi (pq l6 wn l6.length).1 i) .u64 ((112 - 16 * (i : Int)).toNat) (by kernel_rfl) (nat_of (k := .u64) (by kernel_rfl) (by omega))) ?_
       refine kV 125 (.int .u64 (uo (hl (pq l6 wn l6.length).1 i).2 (sl (tgi (pq l6 wn l6.length).1 i) ((112 - 16 * (i : Int)).toNat)))) ?_
       refine kV 126 (.pointer (some ⟨g2, 2, none⟩)) ?_
       refine kl_nil fun u6 M => ?_
       refine pP M 2 rfl 2 (.int .u64 (uo (hl (pq l6 wn l6.length).1 i).2 (sl (tgi (pq l6 wn l6.length).1 i) ((112 - 16 * (i : Int)).toNat)))) (ls [.bool true, .int .u64 (hl (pq l6 wn l6.length).1 i).1, .int .u64 (uo (hl (pq l6 wn l6.length).1 i).2 (sl (tgi (pq l6 wn l6.length).1 i) ((112 - 16 * (i : Int)).toNat)))]) (by decide) (put_ls _ 2 _ _ rfl) fun u7 M => ?_
       refine pl_nil ?_
       refine au_block ?_
       refine au_then ?_
       refine rg_lit ?_
       refine pV 97 (.int .i64 (i : Int)) ?_
       refine pH 98 (.int .i64 ((i + 1 : Nat) : Int)) (iV ((i : Int) + 1) (by omega) (by omega) (by omega)) ?_
       refine pV 14 (.int .i64 ((i + 1 : Nat) : Int)) ?_
       refine nT ?_
       have hz := hl_b (pq l6 wn l6.length).1 i c2
       exact ⟨fun k_ => ([.int .i64 (i : Int), .bool true, .bool true, .int .i64 (i : Int), .slice (some ⟨g9, 0, none⟩) (pq l6 wn l6.length).1.length cap9, .int .i64 (((pq l6 wn l6.length).1.length : Nat) : Int), .bool true, .bool true, .int .i64 (i : Int), .int .i64 ((i + 1 : Nat) : Int), .int .i64 (i : Int), .bool false, v2 101, v2 102, v2 103, v2 104, v2 105, v2 106, v2 107, v2 108, v2 109, v2 110, v2 111, v2 112, v2 113, .pointer (some ⟨g2, 2, none⟩), .int .u64 (hl (pq l6 wn l6.length).1 i).2, .slice (some ⟨g9, 0, none⟩) (pq l6 wn l6.length).1.length cap9, .int .i64 (i : Int), .pointer (some ⟨g9, i, none⟩), .int .u64 (tgi (pq l6 wn l6.length).1 i), .int .i64 (i : Int), .int .i64 (16 * (i : Int)), .int .i64 (112 - 16 * (i : Int)), .int .u64 (112 - 16 * (i : Int)), .int .u64 (sl (tgi (pq l6 wn l6.length).1 i) ((112 - 16 * (i : Int)).toNat)), .int .u64 (uo (hl (pq l6 wn l6.length).1 i).2 (sl (tgi (pq l6 wn l6.length).1 i) ((112 - 16 * (i : Int)).toNat))), .pointer (some ⟨g2, 2, none⟩)] : List Value).getD (k_ - 89) undef, by kernel_rfl, (by rw [hz]; exact M)⟩
     ·intro a u0 hI
      obtain ⟨v2, rfl, M⟩ := hI
      refine wp_seq ?_
      refine sR ?_
      refine pV 89 (.int .i64 (((min 8 (pq l6 wn l6.length).1.length) : Nat) : Int)) ?_
      by_cases c2 : (((min 8 (pq l6 wn l6.length).1.length) : Nat) : Int) < 8
      ·skip
       refine pH 90 (.bool true) (dTz ((((min 8 (pq l6 wn l6.length).1.length) : Nat) : Int) < 8) (c2)) ?_
       refine pV 91 (.bool true) ?_
       refine pl_val (want_on 2 true rfl 91 rfl (by kernel_rfl)) (some 92) rfl (.int .i64 (((min 8 (pq l6 wn l6.length).1.length) : Nat) : Int)) (fun _ => by kernel_rfl) ?_
       refine pl_val (want_on 2 true rfl 91 rfl (by kernel_rfl)) (some 93) rfl (.slice (some ⟨g9, 0, none⟩) (pq l6 wn l6.length).1.length cap9) (fun _ => by kernel_rfl) ?_
       refine pl_val (want_on 2 true rfl 91 rfl (by kernel_rfl)) (some 94) rfl (.int .i64 (((pq l6 wn l6.length).1.length : Nat) : Int)) (fun _ => by kernel_rfl) ?_
       refine pl_val (want_on 2 true rfl 91 rfl (by kernel_rfl)) (some 95) rfl (.bool false) (fun w => Eq.trans (b := .ok (.value (.bool (decide ((((min 8 (pq l6 wn l6.length).1.length) : Nat) : Int) < (((pq l6 wn l6.length).1.length : Nat) : Int))))) w) (by kernel_rfl) (by rw [decide_eq_false (by omega)])) ?_
       refine pV 96 (.bool false) ?_
       refine nT ?_
       refine wp_cond_false (by kernel_rfl) ?_
       refine wp_exit ?_
       refine au_then_exit ?_
       refine au_then_exit ?_
       refine au_block_exit ?_
       refine au_then ?_
       refine sR ?_
       refine pAz M 127 2 3 (ls [.bool true, .int .u64 (hl (pq l6 wn l6.length).1 ((min 8 (pq l6 wn l6.length).1.length))).1, .int .u64 (hl (pq l6 wn l6.length).1 ((min 8 (pq l6 wn l6.length).1.length))).2]) ?_
       refine pl_put M (want_no rfl) rfl 24 _ _ rfl 0 g1 0 (by kernel_rfl) 3 24 (ls [.bool false, .int .u64 0, .int .u64 0]) rfl 3 (ls [.bool true, .int .u64 (hl (pq l6 wn l6.length).1 ((min 8 (pq l6 wn l6.length).1.length))).1, .int .u64 (hl (pq l6 wn l6.length).1 ((min 8 (pq l6 wn l6.length).1.length))).2]) (ls [.bool true, .int .u64 (hl (pq l6 wn l6.length).1 ((min 8 (pq l6 wn l6.length).1.length))).1, .int .u64 (hl (pq l6 wn l6.length).1 ((min 8 (pq l6 wn l6.length).1.length))).2]) (by kernel_rfl) inz24 (by decide) (one_ls _ rfl) (fun j hj => by rw [if_pos (by omega), Nat.sub_zero]) fun u6 M => ?_
       refine nT ?_
       refine wp_ret ?_
       have e0 : gV l4 = true := if_neg c0
       have e1 : (gH l4 l6) = (hl (pq l6 wn l6.length).1 ((min 8 (pq l6 wn l6.length).1.length))).1 := by unfold gH gP; rw [if_neg c0, hwn]
       have e2 : (gL l4 l6) = (hl (pq l6 wn l6.length).1 ((min 8 (pq l6 wn l6.length).1.length))).2 := by unfold gL gP; rw [if_neg c0, hwn]
       exact bodyPost_ret (v := .agg (av 3 (ls [.bool true, .int .u64 (hl (pq l6 wn l6.length).1 ((min 8 (pq l6 wn l6.length).1.length))).1, .int .u64 (hl (pq l6 wn l6.length).1 ((min 8 (pq l6 wn l6.length).1.length))).2]))) (results_cell_row Tryz.results45 _ _ g1 24 (av 3 (ls [.bool true, .int .u64 (hl (pq l6 wn l6.length).1 ((min 8 (pq l6 wn l6.length).1.length))).1, .int .u64 (hl (pq l6 wn l6.length).1 ((min 8 (pq l6 wn l6.length).1.length))).2])) (0, 0) _ (by kernel_rfl) (M.get 0 rfl) Tryz.underlying24 rfl (by rw [av_size]; exact inz24)) (by kernel_rfl) ⟨by rw [e0, e1, e2], below_grown M.old⟩
      ·skip
       refine pH 90 (.bool false) (dF ((((min 8 (pq l6 wn l6.length).1.length) : Nat) : Int) < 8) (c2)) ?_
       refine pV 91 (.bool false) ?_
       refine pl_skip (want_off 2 true rfl 91 rfl (by kernel_rfl)) (some 92) rfl ?_
       refine pl_skip (want_off 2 true rfl 91 rfl (by kernel_rfl)) (some 93) rfl ?_
       refine pl_skip (want_off 2 true rfl 91 rfl (by kernel_rfl)) (some 94) rfl ?_
       refine pl_skip (want_off 2 true rfl 91 rfl (by kernel_rfl)) (some 95) rfl ?_
       refine pV 96 (.bool false) ?_
       refine nT ?_
       refine wp_cond_false (by kernel_rfl) ?_
       refine wp_exit ?_
       refine au_then_exit ?_
       refine au_then_exit ?_
       refine au_block_exit ?_
       refine au_then ?_
       refine sR ?_
       refine pAz M 127 2 3 (ls [.bool true, .int .u64 (hl (pq l6 wn l6.length).1 ((min 8 (pq l6 wn l6.length).1.length))).1, .int .u64 (hl (pq l6 wn l6.length).1 ((min 8 (pq l6 wn l6.length).1.length))).2]) ?_
       refine pl_put M (want_no rfl) rfl 24 _ _ rfl 0 g1 0 (by kernel_rfl) 3 24 (ls [.bool false, .int .u64 0, .int .u64 0]) rfl 3 (ls [.bool true, .int .u64 (hl (pq l6 wn l6.length).1 ((min 8 (pq l6 wn l6.length).1.length))).1, .int .u64 (hl (pq l6 wn l6.length).1 ((min 8 (pq l6 wn l6.length).1.length))).2]) (ls [.bool true, .int .u64 (hl (pq l6 wn l6.length).1 ((min 8 (pq l6 wn l6.length).1.length))).1, .int .u64 (hl (pq l6 wn l6.length).1 ((min 8 (pq l6 wn l6.length).1.length))).2]) (by kernel_rfl) inz24 (by decide) (one_ls _ rfl) (fun j hj => by rw [if_pos (by omega), Nat.sub_zero]) fun u6 M => ?_
       refine nT ?_
       refine wp_ret ?_
       have e0 : gV l4 = true := if_neg c0
       have e1 : (gH l4 l6) = (hl (pq l6 wn l6.length).1 ((min 8 (pq l6 wn l6.length).1.length))).1 := by unfold gH gP; rw [if_neg c0, hwn]
       have e2 : (gL l4 l6) = (hl (pq l6 wn l6.length).1 ((min 8 (pq l6 wn l6.length).1.length))).2 := by unfold gL gP; rw [if_neg c0, hwn]
       exact bodyPost_ret (v := .agg (av 3 (ls [.bool true, .int .u64 (hl (pq l6 wn l6.length).1 ((min 8 (pq l6 wn l6.length).1.length))).1, .int .u64 (hl (pq l6 wn l6.length).1 ((min 8 (pq l6 wn l6.length).1.length))).2]))) (results_cell_row Tryz.results45 _ _ g1 24 (av 3 (ls [.bool true, .int .u64 (hl (pq l6 wn l6.length).1 ((min 8 (pq l6 wn l6.length).1.length))).1, .int .u64 (hl (pq l6 wn l6.length).1 ((min 8 (pq l6 wn l6.length).1.length))).2])) (0, 0) _ (by kernel_rfl) (M.get 0 rfl) Tryz.underlying24 rfl (by rw [av_size]; exact inz24)) (by kernel_rfl) ⟨by rw [e0, e1, e2], below_grown M.old⟩
end Go.Proofs.YtndonmdgplojnaaGreatDoor

namespace Go.Proofs.YtndonmdgplojnaaGreatDoor
open Go.RowKit
section
open Go.Lib
theorem occ1 (s : List UInt8) (c : UInt8) (j : Nat) : occAt s [c] j = true ↔ s[j]? = some c := by
 unfold occAt
 rw [show s[j]? = (s.drop j)[0]? by rw [List.getElem?_drop]; rfl]
 cases s.drop j with
 | nil => simp [List.isPrefixOf]
 | cons a l => simp [List.isPrefixOf]; exact eq_comm
theorem occ2 (s : List UInt8) (a b : UInt8) (j : Nat) : occAt s [a, b] j = true ↔ s[j]? = some a ∧ s[j + 1]? = some b := by
 unfold occAt
 rw [show s[j]? = (s.drop j)[0]? by rw [List.getElem?_drop]; rfl, show s[j + 1]? = (s.drop j)[1]? by rw [List.getElem?_drop]]
 cases s.drop j with
 | nil => simp [List.isPrefixOf]
 | cons x l =>
  cases l with
  | nil => simp [List.isPrefixOf]
  | cons y l =>
   simp only [List.isPrefixOf, Bool.and_true, Bool.and_eq_true, beq_iff_eq, List.getElem?_cons_zero, List.getElem?_cons_succ, Option.some.injEq]
   exact ⟨fun h => ⟨h.1.symm, h.2.symm⟩, fun h => ⟨h.1.symm, h.2.symm⟩⟩
theorem index1 (x t : List UInt8) (c : UInt8) (h : c ∉ x) : index (x ++ c :: t) [c] = x.length := by
 refine index_first (by simp) ((occ1 _ _ _).2 (by simp)) fun j hj => ?_
 refine Bool.eq_false_iff.2 fun e => ?_
 have := (occ1 _ _ _).1 e
 rw [List.getElem?_append_left hj] at this
 exact h (List.mem_of_getElem? this)
theorem index1_no (x : List UInt8) (c : UInt8) (h : c ∉ x) : index x [c] = -1 := by
 refine index_none fun j _ => Bool.eq_false_iff.2 fun e => ?_
 exact h (List.mem_of_getElem? ((occ1 _ _ _).1 e))
theorem index1_has (x t : List UInt8) (c : UInt8) : 0 ≤ index (x ++ c :: t) [c] := by
 rcases index_spec (x ++ c :: t) [c] with ⟨_, h⟩ | ⟨i, h, _⟩
 ·have := h x.length (by simp)
  have e := (occ1 (x ++ c :: t) c x.length).2 (by simp)
  rw [e] at this
  cases this
 ·omega
theorem join_two (x y : List UInt8) (r : List (List UInt8)) (c : UInt8) : join (x :: y :: r) [c] = x ++ c :: join (y :: r) [c] := by
 rw [join_cons, join_cons]
 simp [joinTail]
theorem splitK_join (c : UInt8) : ∀ (r : List (List UInt8)) (x : List UInt8), (∀ y ∈ x :: r, c ∉ y) → splitK [c] 0 r.length (join (x :: r) [c]) = x :: r
 | [], x, _ => by rw [join_one]; rfl
 | y :: r, x, h => by
  have hx : c ∉ x := h x (by simp)
  have e := index1 x (join (y :: r) [c]) c hx
  rw [join_two, List.length_cons, splitK, e, if_neg (by simp)]
  have e2 : (x ++ c :: join (y :: r) [c]).drop (((x.length : Nat) : Int).toNat + [c].length) = join (y :: r) [c] := by
   rw [Int.toNat_natCast, List.length_singleton, ← List.drop_drop, List.drop_left]
   rfl
  rw [e2, splitK_join c r y fun z hz => h z (List.mem_cons_of_mem _ hz)]
  simp
theorem count_join (c : UInt8) : ∀ (r : List (List UInt8)) (x : List UInt8) (fuel : Nat), (∀ y ∈ x :: r, c ∉ y) → r.length < fuel → countFrom [c] fuel (join (x :: r) [c]) = r.length
 | [], x, 0, _, hf => by simp at hf
 | [], x, fuel + 1, h, _ => by
  rw [join_one, countFrom, index1_no x c (h x (by simp))]
  rfl
 | y :: r, x, 0, _, hf => by simp at hf
 | y :: r, x, fuel + 1, h, hf => by
  have hx : c ∉ x := h x (by simp)
  have e := index1 x (join (y :: r) [c]) c hx
  rw [join_two, countFrom, e, if_neg (by simp)]
  have e2 : (x ++ c :: join (y :: r) [c]).drop (((x.length : Nat) : Int).toNat + [c].length) = join (y :: r) [c] := by
   rw [Int.toNat_natCast, List.length_singleton, ← List.drop_drop, List.drop_left]
   rfl
  rw [e2, count_join c r y fuel (fun z hz => h z (List.mem_cons_of_mem _ hz)) (by simp at hf; omega)]
  simp
  omega
theorem join_len (c : UInt8) : ∀ (r : List (List UInt8)) (x : List UInt8), r.length ≤ (join (x :: r) [c]).length
 | [], _ => by simp
 | y :: r, x => by
  have := join_len c r y
  rw [join_two]
  simp
  omega
theorem split_join (c : UInt8) (r : List (List UInt8)) (x : List UInt8) (h : ∀ y ∈ x :: r, c ∉ y) : splitK [c] 0 (count (join (x :: r) [c]) [c]) (join (x :: r) [c]) = x :: r := by
 have := join_len c r x
 rw [count, count_join c r x _ h (by omega)]
 exact splitK_join c r x h
def Lone (c : UInt8) (l : List UInt8) : Prop := ∀ j, l[j]? = some c → ∃ b, l[j + 1]? = some b ∧ b ≠ c
theorem join_lone (c : UInt8) : ∀ (r : List (List UInt8)) (x : List UInt8), (∀ y ∈ x :: r, c ∉ y ∧ y ≠ []) → Lone c (join (x :: r) [c])
 | [], x, h, j, hj => by
  rw [join_one] at hj
  exact absurd (List.mem_of_getElem? hj) (h x (by simp)).1
 | y :: r, x, h, j, hj => by
  have ih := join_lone c r y fun z hz => h z (List.mem_cons_of_mem _ hz)
  have hx := (h x (by simp)).1
  obtain ⟨hy1, hy2⟩ := h y (by simp)
  rw [join_two] at hj ⊢
  rcases Nat.lt_trichotomy j x.length with e | e | e
  ·rw [List.getElem?_append_left e] at hj
   exact absurd (List.mem_of_getElem? hj) hx
  ·subst e
   rw [List.getElem?_append_right (by omega), show x.length + 1 - x.length = 1 by omega, List.getElem?_cons_succ, join_cons]
   cases y with
   | nil => exact absurd rfl hy2
   | cons b y => exact ⟨b, rfl, fun e => hy1 (by rw [e]; simp)⟩
  ·rw [List.getElem?_append_right (by omega), show j - x.length = (j - x.length - 1) + 1 by omega, List.getElem?_cons_succ] at hj
   obtain ⟨b, hb, hn⟩ := ih _ hj
   refine ⟨b, ?_, hn⟩
   rw [List.getElem?_append_right (by omega), show j + 1 - x.length = (j - x.length - 1) + 1 + 1 by omega, List.getElem?_cons_succ]
   exact hb
theorem index2_no (s : List UInt8) (c : UInt8) (h : Lone c s) : index s [c, c] = -1 := by
 refine index_none fun j _ => Bool.eq_false_iff.2 fun e => ?_
 obtain ⟨h1, h2⟩ := (occ2 _ _ _ _).1 e
 obtain ⟨b, h3, h4⟩ := h j h1
 rw [h2] at h3
 exact h4 (Option.some.inj h3).symm
theorem index2 (x t : List UInt8) (c : UInt8) (h : Lone c x) : index (x ++ c :: c :: t) [c, c] = x.length := by
 refine index_first (by simp) ((occ2 _ _ _ _).2 ⟨by simp, by simp⟩) fun j hj => Bool.eq_false_iff.2 fun e => ?_
 obtain ⟨h1, h2⟩ := (occ2 _ _ _ _).1 e
 rw [List.getElem?_append_left hj] at h1
 obtain ⟨b, h3, h4⟩ := h j h1
 have := (List.getElem?_eq_some_iff.1 h3).1
 rw [List.getElem?_append_left this, h3] at h2
 exact h4 (Option.some.inj h2)
end
theorem ba_list {a b : ByteArray} (h : a.data.toList = b.data.toList) : a = b := by
 apply ByteArray.ext
 exact Array.toList_inj.1 h
theorem map_list {l m : List ByteArray} (h : l.map (·.data.toList) = m.map (·.data.toList)) : l = m := by
 induction l generalizing m with
 | nil => cases m <;> simp_all
 | cons a l ih =>
  cases m with
  | nil => simp at h
  | cons b m =>
   simp only [List.map_cons, List.cons.injEq] at h
   rw [ba_list h.1, ih h.2]
theorem spl_jn (c : UInt8) (x : ByteArray) (r : List ByteArray) (h : ∀ y ∈ x :: r, c ∉ y.data.toList) : spl (jn (x :: r) ⟨#[c]⟩) ⟨#[c]⟩ = x :: r := by
 apply map_list
 unfold spl
 rw [Lib.splitB_data]
 exact split_join c (r.map (·.data.toList)) x.data.toList (by
  intro y hy
  rw [← List.map_cons (f := fun z : ByteArray => z.data.toList)] at hy
  obtain ⟨z, hz, rfl⟩ := List.mem_map.1 hy
  exact h z hz)
theorem cut_hit (s sep : List UInt8) (i : Nat) (h : Lib.index s sep = i) : Lib.cut s sep = (s.take i, s.drop (i + sep.length), true) := by
 unfold Lib.cut
 rw [h, if_pos (by omega), Int.toNat_natCast]
theorem cut_miss (s sep : List UInt8) (h : Lib.index s sep = -1) : Lib.cut s sep = (s, [], false) := by
 unfold Lib.cut
 rw [h, if_neg (by omega)]
theorem cut1 (x y : ByteArray) (c : UInt8) (h : c ∉ x.data.toList) : cuA ((x ++ (⟨#[c]⟩ : ByteArray)) ++ y) ⟨#[c]⟩ = x ∧ cuB ((x ++ (⟨#[c]⟩ : ByteArray)) ++ y) ⟨#[c]⟩ = y := by
 have e : ((x ++ (⟨#[c]⟩ : ByteArray)) ++ y).data.toList = x.data.toList ++ c :: y.data.toList := by simp [ByteArray.data_append]
 have hi := cut_hit _ [c] _ (index1 x.data.toList y.data.toList c h)
 unfold cuA cuB
 rw [e, show (ByteArray.mk #[c]).data.toList = [c] from rfl, hi]
 refine ⟨ba_list (List.take_left' rfl), ba_list ?_⟩
 show List.drop (x.data.toList.length + 1) _ = _
 rw [← List.drop_drop, List.drop_left]
 rfl
theorem cut2 (x y : ByteArray) (c : UInt8) (h : Lone c x.data.toList) : cuA ((x ++ (⟨#[c, c]⟩ : ByteArray)) ++ y) ⟨#[c, c]⟩ = x ∧ cuB ((x ++ (⟨#[c, c]⟩ : ByteArray)) ++ y) ⟨#[c, c]⟩ = y := by
 have e : ((x ++ (⟨#[c, c]⟩ : ByteArray)) ++ y).data.toList = x.data.toList ++ c :: c :: y.data.toList := by simp [ByteArray.data_append]
 have hi := cut_hit _ [c, c] _ (index2 x.data.toList y.data.toList c h)
 unfold cuA cuB
 rw [e, show (ByteArray.mk #[c, c]).data.toList = [c, c] from rfl, hi]
 refine ⟨ba_list (List.take_left' rfl), ba_list ?_⟩
 show List.drop (x.data.toList.length + 2) _ = _
 rw [← List.drop_drop, List.drop_left]
 rfl
theorem cut2_no (x : ByteArray) (c : UInt8) (h : Lone c x.data.toList) : cuA x ⟨#[c, c]⟩ = x ∧ cuB x ⟨#[c, c]⟩ = ⟨#[]⟩ := by
 have hi := cut_miss _ [c, c] (index2_no x.data.toList c h)
 unfold cuA cuB
 rw [show (ByteArray.mk #[c, c]).data.toList = [c, c] from rfl, hi]
 exact ⟨rfl, rfl⟩
theorem ctn_yes (x y : ByteArray) (z : ByteArray) (c : UInt8) (h : z.data.toList = x.data.toList ++ c :: y.data.toList) : ctn z ⟨#[c]⟩ = true := by
 unfold ctn Lib.contains
 rw [h]
 exact decide_eq_true (index1_has _ _ _)
theorem ctn_no (x : ByteArray) (c : UInt8) (h : c ∉ x.data.toList) : ctn x ⟨#[c]⟩ = false := by
 unfold ctn Lib.contains
 rw [show Lib.index x.data.toList (ByteArray.mk #[c]).data.toList = -1 from index1_no _ _ h]
 rfl
end Go.Proofs.YtndonmdgplojnaaGreatDoor

namespace Go.Proofs.YtndonmdgplojnaaGreatDoor
open Go.RowKit
def lV (s : ByteArray) : Bool := if (39 : Int) < (s.size : Int) then false else if ctn s ⟨#[58]⟩ = true then (lk6 s).isSome else false
def lH (s : ByteArray) : Int := if (39 : Int) < (s.size : Int) then 0 else if ctn s ⟨#[58]⟩ = true then ((lk6 s).getD (0, 0)).1 else 0
def lL (s : ByteArray) : Int := if (39 : Int) < (s.size : Int) then 0 else if ctn s ⟨#[58]⟩ = true then ((lk6 s).getD (0, 0)).2 else (lk4 s).getD 0
def lI (s : ByteArray) : Bool := if (39 : Int) < (s.size : Int) then false else if ctn s ⟨#[58]⟩ = true then (lk6 s).isSome else (lk4 s).isSome
def rdE (s : ByteArray) : Int := if lI s = true then (if txt (lV s) (lH s) (lL s) = s then 0 else 8) else 8
set_option maxRecDepth 100000 in
set_option maxHeartbeats 4000000 in
set_option linter.unusedSimpArgs false in
theorem c_likely (s : ByteArray) (w : World) (hL : Laid w)  :
  Calls Tryz.prog 44 #[.string s] w fun r w' => r = .returned (.tuple #[.agg (av 3 (ls [.bool (lV s), .int .u64 (lH s), .int .u64 (lL s)])), .bool ((lI s))]) ∧ Below w.heap.size w w' := by
 go_enter Tryz.func44, Tryz.ntmps44
 have M := Mem.start hL
 refine sR ?_
 refine pN M 2 (.cells (av 3 (ls [.bool false, .int .u64 0, .int .u64 0])) 24) fun g1 u1 M => ?_
 refine pV 3 (.bool false) ?_
 refine nT ?_
 refine wp_seq ?_
 refine wp_block ?_
 refine sR ?_
 refine pV 5 (.string s) ?_
 refine pV 6 (.int .i64 (s.size : Int)) ?_
 by_cases c0 : 39 < (s.size : Int)
 ·skip
  refine pH 7 (.bool true) (dTz (39 < (s.size : Int)) (c0)) ?_
  refine pV 4 (.bool true) ?_
  refine nT ?_
  refine wp_cond_true (by kernel_rfl) ?_
  refine sR ?_
  refine pV 8 (.agg (av 3 (ls [.bool false, .int .u64 0, .int .u64 0]))) ?_
  refine pl_put M (want_no rfl) rfl 24 _ _ rfl 0 g1 0 (by kernel_rfl) 3 24 (ls [.bool false, .int .u64 0, .int .u64 0]) rfl 3 (ls [.bool false, .int .u64 0, .int .u64 0]) (ls [.bool false, .int .u64 0, .int .u64 0]) (by kernel_rfl) inz24 (by decide) (one_ls _ rfl) (fun j hj => by rw [if_pos (by omega), Nat.sub_zero]) fun u2 M => ?_
  refine pV 3 (.bool false) ?_
  refine nT ?_
  refine wp_ret ?_
  refine au_block_ret ?_
  refine au_then_ret ?_
  have e0 : lV s = false := by unfold lV; rw [if_pos c0]
  have e1 : (lH s) = 0 := by unfold lH; rw [if_pos c0]
  have e2 : (lL s) = 0 := by unfold lL; rw [if_pos c0]
  have e3 : (lI s) = false := by unfold lI; rw [if_pos c0]
  exact bodyPost_ret (v := .tuple #[.agg (av 3 (ls [.bool false, .int .u64 0, .int .u64 0])), .bool false]) (results_cell_tmp Tryz.results44 _ _ g1 24 (av 3 (ls [.bool false, .int .u64 0, .int .u64 0])) (0, 0) _ _ (by kernel_rfl) (by kernel_rfl) (M.get 0 rfl) Tryz.underlying24 rfl (by rw [av_size]; exact inz24)) (by kernel_rfl) ⟨by rw [e0, e1, e2, e3], below_grown M.old⟩
 ·skip
  refine pH 7 (.bool false) (dF (39 < (s.size : Int)) (c0)) ?_
  refine pV 4 (.bool false) ?_
  refine nT ?_
  refine wp_cond_false (by kernel_rfl) ?_
  refine sR ?_
  refine pV 10 (.string s) ?_
  rcases Bool.eq_false_or_eq_true (ctn s ⟨#[58]⟩) with c1 | c1
  ·skip
   refine pC M 11 68 #[.string s, .string ⟨#[58]⟩] (.bool true) (fun w M => call_val (c_Contains s ⟨#[58]⟩ (by omega) w M.laid) (congrArg Value.bool c1)) fun u2 M => ?_
   refine pV 9 (.bool true) ?_
   refine nT ?_
   refine wp_cond_true (by kernel_rfl) ?_
   refine sR ?_
   refine pV 12 (.string s) ?_
   refine pC M 13 69 #[.string s] (.tuple #[.agg (av 3 (ls [.bool ((lk6 s).isSome), .int .u64 ((lk6 s).getD (0, 0)).1, .int .u64 ((lk6 s).getD (0, 0)).2])), .bool (lk6 s).isSome]) (fun w M => c_likely6 s (by omega) w M.laid) fun u3 M => ?_
   refine pV 14 (.agg (av 3 (ls [.bool ((lk6 s).isSome), .int .u64 ((lk6 s).getD (0, 0)).1, .int .u64 ((lk6 s).getD (0, 0)).2]))) ?_
   refine pV 15 (.bool (lk6 s).isSome) ?_
   refine pl_put M (want_no rfl) rfl 24 _ _ rfl 0 g1 0 (by kernel_rfl) 3 24 (ls [.bool false, .int .u64 0, .int .u64 0]) rfl 3 (ls [.bool ((lk6 s).isSome), .int .u64 ((lk6 s).getD (0, 0)).1, .int .u64 ((lk6 s).getD (0, 0)).2]) (ls [.bool ((lk6 s).isSome), .int .u64 ((lk6 s).getD (0, 0)).1, .int .u64 ((lk6 s).getD (0, 0)).2]) (by kernel_rfl) inz24 (by decide) (one_ls _ rfl) (fun j hj => by rw [if_pos (by omega), Nat.sub_zero]) fun u4 M => ?_
   refine pV 3 (.bool (lk6 s).isSome) ?_
   refine nT ?_
   refine wp_ret ?_
   refine au_block_ret ?_
   refine au_then_ret ?_
   have e0 : lV s = (lk6 s).isSome := by unfold lV; rw [if_neg c0, if_pos c1]
   have e1 : (lH s) = ((lk6 s).getD (0, 0)).1 := by unfold lH; rw [if_neg c0, if_pos c1]
   have e2 : (lL s) = ((lk6 s).getD (0, 0)).2 := by unfold lL; rw [if_neg c0, if_pos c1]
   have e3 : (lI s) = (lk6 s).isSome := by unfold lI; rw [if_neg c0, if_pos c1]
   exact bodyPost_ret (v := .tuple #[.agg (av 3 (ls [.bool ((lk6 s).isSome), .int .u64 ((lk6 s).getD (0, 0)).1, .int .u64 ((lk6 s).getD (0, 0)).2])), .bool (lk6 s).isSome]) (results_cell_tmp Tryz.results44 _ _ g1 24 (av 3 (ls [.bool ((lk6 s).isSome), .int .u64 ((lk6 s).getD (0, 0)).1, .int .u64 ((lk6 s).getD (0, 0)).2])) (0, 0) _ _ (by kernel_rfl) (by kernel_rfl) (M.get 0 rfl) Tryz.underlying24 rfl (by rw [av_size]; exact inz24)) (by kernel_rfl) ⟨by rw [e0, e1, e2, e3], below_grown M.old⟩
  ·skip
   refine pC M 11 68 #[.string s, .string ⟨#[58]⟩] (.bool false) (fun w M => call_val (c_Contains s ⟨#[58]⟩ (by omega) w M.laid) (congrArg Value.bool c1)) fun u2 M => ?_
   refine pV 9 (.bool false) ?_
   refine nT ?_
   refine wp_cond_false (by kernel_rfl) ?_
   refine wp_skip ?_
   refine au_block ?_
   refine au_then ?_
   refine sR ?_
   refine pV 16 (.string s) ?_
   refine pC M 17 70 #[.string s] (.tuple #[.agg (av 3 (ls [.bool false, .int .u64 0, .int .u64 ((lk4 s).getD 0)])), .bool (lk4 s).isSome]) (fun w M => c_likely4 s (by omega) w M.laid) fun u3 M => ?_
   refine pV 18 (.agg (av 3 (ls [.bool false, .int .u64 0, .int .u64 ((lk4 s).getD 0)]))) ?_
   refine pV 19 (.bool (lk4 s).isSome) ?_
   refine pl_put M (want_no rfl) rfl 24 _ _ rfl 0 g1 0 (by kernel_rfl) 3 24 (ls [.bool false, .int .u64 0, .int .u64 0]) rfl 3 (ls [.bool false, .int .u64 0, .int .u64 ((lk4 s).getD 0)]) (ls [.bool false, .int .u64 0, .int .u64 ((lk4 s).getD 0)]) (by kernel_rfl) inz24 (by decide) (one_ls _ rfl) (fun j hj => by rw [if_pos (by omega), Nat.sub_zero]) fun u4 M => ?_
   refine pV 3 (.bool (lk4 s).isSome) ?_
   refine nT ?_
   refine wp_ret ?_
   have e0 : lV s = false := by unfold lV; rw [if_neg c0, if_neg (by rw [c1]; decide)]
   have e1 : (lH s) = 0 := by unfold lH; rw [if_neg c0, if_neg (by rw [c1]; decide)]
   have e2 : (lL s) = ((lk4 s).getD 0) := by unfold lL; rw [if_neg c0, if_neg (by rw [c1]; decide)]
   have e3 : (lI s) = (lk4 s).isSome := by unfold lI; rw [if_neg c0, if_neg (by rw [c1]; decide)]
   exact bodyPost_ret (v := .tuple #[.agg (av 3 (ls [.bool false, .int .u64 0, .int .u64 ((lk4 s).getD 0)])), .bool (lk4 s).isSome]) (results_cell_tmp Tryz.results44 _ _ g1 24 (av 3 (ls [.bool false, .int .u64 0, .int .u64 ((lk4 s).getD 0)])) (0, 0) _ _ (by kernel_rfl) (by kernel_rfl) (M.get 0 rfl) Tryz.underlying24 rfl (by rw [av_size]; exact inz24)) (by kernel_rfl) ⟨by rw [e0, e1, e2, e3], below_grown M.old⟩
set_option maxRecDepth 100000 in
set_option maxHeartbeats 4000000 in
set_option linter.unusedSimpArgs false in
theorem c_Read (s : ByteArray) (w : World) (hL : Laid w)  :
  Calls Tryz.prog 18 #[.string s] w fun r w' => r = .returned (.tuple #[.agg (av 3 (ls [.bool (zB (rdE s) (lV s)), .int .u64 (zI (rdE s) (lH s)), .int .u64 (zI (rdE s) (lL s))])), .int .i64 (rdE s)]) ∧ Below w.heap.size w w' := by
 go_enter Tryz.func18, Tryz.ntmps18
 have M := Mem.start hL
 refine sR ?_
 refine pN M 2 (.cells (av 3 (ls [.bool false, .int .u64 0, .int .u64 0])) 24) fun g1 u1 M => ?_
 refine pV 3 (.int .i64 0) ?_
 refine nT ?_
 refine wp_seq ?_
 refine sR ?_
 refine pV 7 (.string s) ?_
 rcases Bool.eq_false_or_eq_true (lI s) with c0 | c0
 ·skip
  refine pC M 8 44 #[.string s] (.tuple #[.agg (av 3 (ls [.bool (lV s), .int .u64 (lH s), .int .u64 (lL s)])), .bool true]) (fun w M => call_val (c_likely s w M.laid) (by rw [c0])) fun u2 M => ?_
  refine pV 6 (.tuple #[.agg (av 3 (ls [.bool (lV s), .int .u64 (lH s), .int .u64 (lL s)])), .bool true]) ?_
  refine pV 9 (.agg (av 3 (ls [.bool (lV s), .int .u64 (lH s), .int .u64 (lL s)]))) ?_
  refine pV 10 (.bool true) ?_
  refine pN M 4 (.cells (av 3 (ls [.bool false, .int .u64 0, .int .u64 0])) 24) fun g2 u3 M => ?_
  refine pl_put M (want_no rfl) rfl 24 _ _ rfl 1 g2 0 (by kernel_rfl) 3 24 (ls [.bool false, .int .u64 0, .int .u64 0]) rfl 3 (ls [.bool (lV s), .int .u64 (lH s), .int .u64 (lL s)]) (ls [.bool (lV s), .int .u64 (lH s), .int .u64 (lL s)]) (by kernel_rfl) inz24 (by decide) (one_ls _ rfl) (fun j hj => by rw [if_pos (by omega), Nat.sub_zero]) fun u4 M => ?_
  refine pV 5 (.bool true) ?_
  refine nT ?_
  refine sR ?_
  refine pV 11 (.bool true) ?_
  refine pV 12 (.bool true) ?_
  refine pl_load M (want_on 1 true rfl 12 rfl (by kernel_rfl)) (some 13) rfl 24 _ rfl 1 g2 0 (by kernel_rfl) 3 24 (ls [.bool (lV s), .int .u64 (lH s), .int .u64 (lL s)]) rfl 3 (ls [.bool (lV s), .int .u64 (lH s), .int .u64 (lL s)]) (fun j _ => by rw [Nat.zero_add]) (by decide) _ Tryz.underlying24 rfl inz24 ?_
  refine pl_call M (want_on 1 true rfl 12 rfl (by kernel_rfl)) (some 14) rfl 22 #[.agg (av 3 (ls [.bool (lV s), .int .u64 (lH s), .int .u64 (lL s)]))] (.string (txt (lV s) (lH s) (lL s))) (fun _ => by kernel_rfl) (fun w M => c_Text (lV s) (lH s) (lL s) w M.laid) fun u5 M => ?_
  refine pl_val (want_on 1 true rfl 12 rfl (by kernel_rfl)) (some 15) rfl (.string s) (fun _ => by kernel_rfl) ?_
  by_cases c1 : (txt (lV s) (lH s) (lL s)) = s
  ·skip
   refine pl_val (want_on 1 true rfl 12 rfl (by kernel_rfl)) (some 16) rfl (.bool true) (fun w => Eq.trans (b := .ok (.value (.bool ((txt (lV s) (lH s) (lL s)).toList == s.toList))) w) (by kernel_rfl) (by rw [seq_pos c1])) ?_
   refine pV 17 (.bool true) ?_
   refine nT ?_
   refine wp_cond_true (by kernel_rfl) ?_
   refine sR ?_
   refine pAz M 18 1 3 (ls [.bool (lV s), .int .u64 (lH s), .int .u64 (lL s)]) ?_
   refine pl_put M (want_no rfl) rfl 24 _ _ rfl 0 g1 0 (by kernel_rfl) 3 24 (ls [.bool false, .int .u64 0, .int .u64 0]) rfl 3 (ls [.bool (lV s), .int .u64 (lH s), .int .u64 (lL s)]) (ls [.bool (lV s), .int .u64 (lH s), .int .u64 (lL s)]) (by kernel_rfl) inz24 (by decide) (one_ls _ rfl) (fun j hj => by rw [if_pos (by omega), Nat.sub_zero]) fun u6 M => ?_
   refine pV 3 (.int .i64 0) ?_
   refine nT ?_
   refine wp_ret ?_
   refine au_then_ret ?_
   have e0 : zB (rdE s) (lV s) = lV s := by rw [(show rdE s = 0 by unfold rdE; rw [if_pos c0, if_pos c1])]; rfl
   have e1 : (zI (rdE s) (lH s)) = (lH s) := by rw [(show rdE s = 0 by unfold rdE; rw [if_pos c0, if_pos c1])]; rfl
   have e2 : (zI (rdE s) (lL s)) = (lL s) := by rw [(show rdE s = 0 by unfold rdE; rw [if_pos c0, if_pos c1])]; rfl
   have e3 : (rdE s) = 0 := (show rdE s = 0 by unfold rdE; rw [if_pos c0, if_pos c1])
   exact bodyPost_ret (v := .tuple #[.agg (av 3 (ls [.bool (lV s), .int .u64 (lH s), .int .u64 (lL s)])), .int .i64 0]) (results_cell_tmp Tryz.results18 _ _ g1 24 (av 3 (ls [.bool (lV s), .int .u64 (lH s), .int .u64 (lL s)])) (0, 0) _ _ (by kernel_rfl) (by kernel_rfl) (M.get 0 rfl) Tryz.underlying24 rfl (by rw [av_size]; exact inz24)) (by kernel_rfl) ⟨by rw [e0, e1, e2, e3], below_grown M.old⟩
  ·skip
   refine pl_val (want_on 1 true rfl 12 rfl (by kernel_rfl)) (some 16) rfl (.bool false) (fun w => Eq.trans (b := .ok (.value (.bool ((txt (lV s) (lH s) (lL s)).toList == s.toList))) w) (by kernel_rfl) (by rw [seq_neg c1])) ?_
   refine pV 17 (.bool false) ?_
   refine nT ?_
   refine wp_cond_false (by kernel_rfl) ?_
   refine wp_skip ?_
   refine au_then ?_
   refine sR ?_
   refine pV 19 (.agg (av 3 (ls [.bool false, .int .u64 0, .int .u64 0]))) ?_
   refine pl_put M (want_no rfl) rfl 24 _ _ rfl 0 g1 0 (by kernel_rfl) 3 24 (ls [.bool false, .int .u64 0, .int .u64 0]) rfl 3 (ls [.bool false, .int .u64 0, .int .u64 0]) (ls [.bool false, .int .u64 0, .int .u64 0]) (by kernel_rfl) inz24 (by decide) (one_ls _ rfl) (fun j hj => by rw [if_pos (by omega), Nat.sub_zero]) fun u6 M => ?_
   refine pV 3 (.int .i64 8) ?_
   refine nT ?_
   refine wp_ret ?_
   have e0 : zB (rdE s) (lV s) = false := by rw [(show rdE s = 8 by unfold rdE; rw [if_pos c0, if_neg c1])]; rfl
   have e1 : (zI (rdE s) (lH s)) = 0 := by rw [(show rdE s = 8 by unfold rdE; rw [if_pos c0, if_neg c1])]; rfl
   have e2 : (zI (rdE s) (lL s)) = 0 := by rw [(show rdE s = 8 by unfold rdE; rw [if_pos c0, if_neg c1])]; rfl
   have e3 : (rdE s) = 8 := (show rdE s = 8 by unfold rdE; rw [if_pos c0, if_neg c1])
   exact bodyPost_ret (v := .tuple #[.agg (av 3 (ls [.bool false, .int .u64 0, .int .u64 0])), .int .i64 8]) (results_cell_tmp Tryz.results18 _ _ g1 24 (av 3 (ls [.bool false, .int .u64 0, .int .u64 0])) (0, 0) _ _ (by kernel_rfl) (by kernel_rfl) (M.get 0 rfl) Tryz.underlying24 rfl (by rw [av_size]; exact inz24)) (by kernel_rfl) ⟨by rw [e0, e1, e2, e3], below_grown M.old⟩
 ·skip
  refine pC M 8 44 #[.string s] (.tuple #[.agg (av 3 (ls [.bool (lV s), .int .u64 (lH s), .int .u64 (lL s)])), .bool false]) (fun w M => call_val (c_likely s w M.laid) (by rw [c0])) fun u2 M => ?_
  refine pV 6 (.tuple #[.agg (av 3 (ls [.bool (lV s), .int .u64 (lH s), .int .u64 (lL s)])), .bool false]) ?_
  refine pV 9 (.agg (av 3 (ls [.bool (lV s), .int .u64 (lH s), .int .u64 (lL s)]))) ?_
  refine pV 10 (.bool false) ?_
  refine pN M 4 (.cells (av 3 (ls [.bool false, .int .u64 0, .int .u64 0])) 24) fun g2 u3 M => ?_
  refine pl_put M (want_no rfl) rfl 24 _ _ rfl 1 g2 0 (by kernel_rfl) 3 24 (ls [.bool false, .int .u64 0, .int .u64 0]) rfl 3 (ls [.bool (lV s), .int .u64 (lH s), .int .u64 (lL s)]) (ls [.bool (lV s), .int .u64 (lH s), .int .u64 (lL s)]) (by kernel_rfl) inz24 (by decide) (one_ls _ rfl) (fun j hj => by rw [if_pos (by omega), Nat.sub_zero]) fun u4 M => ?_
  refine pV 5 (.bool false) ?_
  refine nT ?_
  refine sR ?_
  refine pV 11 (.bool false) ?_
  refine pV 12 (.bool false) ?_
  refine pl_skip (want_off 1 true rfl 12 rfl (by kernel_rfl)) (some 13) rfl ?_
  refine pl_skip (want_off 1 true rfl 12 rfl (by kernel_rfl)) (some 14) rfl ?_
  refine pl_skip (want_off 1 true rfl 12 rfl (by kernel_rfl)) (some 15) rfl ?_
  refine pl_skip (want_off 1 true rfl 12 rfl (by kernel_rfl)) (some 16) rfl ?_
  refine pV 17 (.bool false) ?_
  refine nT ?_
  refine wp_cond_false (by kernel_rfl) ?_
  refine wp_skip ?_
  refine au_then ?_
  refine sR ?_
  refine pV 19 (.agg (av 3 (ls [.bool false, .int .u64 0, .int .u64 0]))) ?_
  refine pl_put M (want_no rfl) rfl 24 _ _ rfl 0 g1 0 (by kernel_rfl) 3 24 (ls [.bool false, .int .u64 0, .int .u64 0]) rfl 3 (ls [.bool false, .int .u64 0, .int .u64 0]) (ls [.bool false, .int .u64 0, .int .u64 0]) (by kernel_rfl) inz24 (by decide) (one_ls _ rfl) (fun j hj => by rw [if_pos (by omega), Nat.sub_zero]) fun u5 M => ?_
  refine pV 3 (.int .i64 8) ?_
  refine nT ?_
  refine wp_ret ?_
  have e0 : zB (rdE s) (lV s) = false := by rw [(show rdE s = 8 by unfold rdE; rw [if_neg (by rw [c0]; decide)])]; rfl
  have e1 : (zI (rdE s) (lH s)) = 0 := by rw [(show rdE s = 8 by unfold rdE; rw [if_neg (by rw [c0]; decide)])]; rfl
  have e2 : (zI (rdE s) (lL s)) = 0 := by rw [(show rdE s = 8 by unfold rdE; rw [if_neg (by rw [c0]; decide)])]; rfl
  have e3 : (rdE s) = 8 := (show rdE s = 8 by unfold rdE; rw [if_neg (by rw [c0]; decide)])
  exact bodyPost_ret (v := .tuple #[.agg (av 3 (ls [.bool false, .int .u64 0, .int .u64 0])), .int .i64 8]) (results_cell_tmp Tryz.results18 _ _ g1 24 (av 3 (ls [.bool false, .int .u64 0, .int .u64 0])) (0, 0) _ _ (by kernel_rfl) (by kernel_rfl) (M.get 0 rfl) Tryz.underlying24 rfl (by rw [av_size]; exact inz24)) (by kernel_rfl) ⟨by rw [e0, e1, e2, e3], below_grown M.old⟩
def rpV (s : ByteArray) : Bool := zB (rdE (cuA s ⟨#[47]⟩)) (lV (cuA s ⟨#[47]⟩))
def rpH (s : ByteArray) : Int := zI (rdE (cuA s ⟨#[47]⟩)) (lH (cuA s ⟨#[47]⟩))
def rpL (s : ByteArray) : Int := zI (rdE (cuA s ⟨#[47]⟩)) (lL (cuA s ⟨#[47]⟩))
def rpB (s : ByteArray) : Int := (nmb 10 255 (cuB s ⟨#[47]⟩)).getD 0
def rpE (s : ByteArray) : Int := if rdE (cuA s ⟨#[47]⟩) = 0 then (if (nmb 10 255 (cuB s ⟨#[47]⟩)).isSome = true then (if ptx (rpV s) (rpH s) (rpL s) (rpB s) = s then 0 else 8) else 8) else 8
theorem nmb_le (s : ByteArray) : 0 ≤ (nmb 10 255 s).getD 0 ∧ (nmb 10 255 s).getD 0 ≤ 255 := by
 unfold nmb
 split
 ·decide
 ·cases h : prs 10 255 s with
  | none => decide
  | some x => exact prs_lt10 h
set_option maxRecDepth 100000 in
set_option maxHeartbeats 4000000 in
set_option linter.unusedSimpArgs false in
theorem c_ReadPrefix (s : ByteArray) (hs : s.size ≤ 200000) (w : World) (hL : Laid w)  :
  Calls Tryz.prog 20 #[.string s] w fun r w' => r = .returned (.tuple #[.agg (av 4 (ls [.bool (zB (rpE s) (rpV s)), .int .u64 (zI (rpE s) (rpH s)), .int .u64 (zI (rpE s) (rpL s)), .int .u8 (zI (rpE s) (rpB s))])), .int .i64 (rpE s)]) ∧ Below w.heap.size w w' := by
 go_enter Tryz.func20, Tryz.ntmps20
 have M := Mem.start hL
 refine sR ?_
 refine pN M 2 (.cells (av 4 (ls [.bool false, .int .u64 0, .int .u64 0, .int .u8 0])) 39) fun g1 u1 M => ?_
 refine pV 3 (.int .i64 0) ?_
 refine nT ?_
 refine sR ?_
 refine pV 13 (.string s) ?_
 refine pC M 14 46 #[.string s, .string ⟨#[47]⟩] (.tuple #[.string (cuA s ⟨#[47]⟩), .string (cuB s ⟨#[47]⟩), .bool (cuC s ⟨#[47]⟩)]) (fun w M => c_Cut s ⟨#[47]⟩ (by omega) w M.laid) fun u2 M => ?_
 refine pV 12 (.tuple #[.string (cuA s ⟨#[47]⟩), .string (cuB s ⟨#[47]⟩), .bool (cuC s ⟨#[47]⟩)]) ?_
 refine pV 15 (.string (cuA s ⟨#[47]⟩)) ?_
 refine pV 16 (.string (cuB s ⟨#[47]⟩)) ?_
 refine pV 17 (.bool (cuC s ⟨#[47]⟩)) ?_
 refine pV 4 (.string (cuA s ⟨#[47]⟩)) ?_
 refine pV 5 (.string (cuB s ⟨#[47]⟩)) ?_
 refine pV 6 (.bool (cuC s ⟨#[47]⟩)) ?_
 refine nT ?_
 refine sR ?_
 refine pV 19 (.string (cuA s ⟨#[47]⟩)) ?_
 refine pC M 20 18 #[.string (cuA s ⟨#[47]⟩)] (.tuple #[.agg (av 3 (ls [.bool (rpV s), .int .u64 (rpH s), .int .u64 (rpL s)])), .int .i64 (rdE (cuA s ⟨#[47]⟩))]) (fun w M => c_Read (cuA s ⟨#[47]⟩) w M.laid) fun u3 M => ?_
 refine pV 18 (.tuple #[.agg (av 3 (ls [.bool (rpV s), .int .u64 (rpH s), .int .u64 (rpL s)])), .int .i64 (rdE (cuA s ⟨#[47]⟩))]) ?_
 refine pV 21 (.agg (av 3 (ls [.bool (rpV s), .int .u64 (rpH s), .int .u64 (rpL s)]))) ?_
 refine pV 22 (.int .i64 (rdE (cuA s ⟨#[47]⟩))) ?_
 refine pN M 7 (.cells (av 3 (ls [.bool false, .int .u64 0, .int .u64 0])) 24) fun g2 u4 M => ?_
 refine pl_put M (want_no rfl) rfl 24 _ _ rfl 1 g2 0 (by kernel_rfl) 3 24 (ls [.bool false, .int .u64 0, .int .u64 0]) rfl 3 (ls [.bool (rpV s), .int .u64 (rpH s), .int .u64 (rpL s)]) (ls [.bool (rpV s), .int .u64 (rpH s), .int .u64 (rpL s)]) (by kernel_rfl) inz24 (by decide) (one_ls _ rfl) (fun j hj => by rw [if_pos (by omega), Nat.sub_zero]) fun u5 M => ?_
 refine pV 8 (.int .i64 (rdE (cuA s ⟨#[47]⟩))) ?_
 refine nT ?_
 refine sR ?_
 refine pV 24 (.string (cuB s ⟨#[47]⟩)) ?_
 refine pC M 25 47 #[.string (cuB s ⟨#[47]⟩), .int .i64 10, .int .i64 8] (.tuple #[.int .u16 (rpB s), .bool (nmb 10 255 (cuB s ⟨#[47]⟩)).isSome]) (fun w M => c_number10 (cuB s ⟨#[47]⟩) w M.laid) fun u6 M => ?_
 refine pV 23 (.tuple #[.int .u16 (rpB s), .bool (nmb 10 255 (cuB s ⟨#[47]⟩)).isSome]) ?_
 refine pV 26 (.int .u16 (rpB s)) ?_
 refine pV 27 (.bool (nmb 10 255 (cuB s ⟨#[47]⟩)).isSome) ?_
 refine pV 9 (.int .u16 (rpB s)) ?_
 refine pV 10 (.bool (nmb 10 255 (cuB s ⟨#[47]⟩)).isSome) ?_
 refine nT ?_
 refine sR ?_
 refine pAz M 28 1 3 (ls [.bool (rpV s), .int .u64 (rpH s), .int .u64 (rpL s)]) ?_
 refine pV 29 (.int .u16 (rpB s)) ?_
 refine pH 30 (.int .u8 (rpB s)) (fun w => Eq.trans (b := .ok (.value (.int .u8 (cv .u8 (rpB s)))) w) (by kernel_rfl) (by have : 0 ≤ rpB s ∧ rpB s ≤ 255 := nmb_le _; rw [cv_u8]; congr 3; omega)) ?_
 refine pV 31 (.agg (av 4 (ls [.bool (rpV s), .int .u64 (rpH s), .int .u64 (rpL s), .int .u8 (rpB s)]))) ?_
 refine pN M 11 (.cells (av 4 (ls [.bool false, .int .u64 0, .int .u64 0, .int .u8 0])) 39) fun g3 u7 M => ?_
 refine pl_put M (want_no rfl) rfl 39 _ _ rfl 2 g3 0 (by kernel_rfl) 4 39 (ls [.bool false, .int .u64 0, .int .u64 0, .int .u8 0]) rfl 4 (ls [.bool (rpV s), .int .u64 (rpH s), .int .u64 (rpL s), .int .u8 (rpB s)]) (ls [.bool (rpV s), .int .u64 (rpH s), .int .u64 (rpL s), .int .u8 (rpB s)]) (by kernel_rfl) inz39 (by decide) (one_ls _ rfl) (fun j hj => by rw [if_pos (by omega), Nat.sub_zero]) fun u8 M => ?_
 refine nT ?_
 refine wp_seq ?_
 refine sR ?_
 refine pV 32 (.int .i64 (rdE (cuA s ⟨#[47]⟩))) ?_
 by_cases c0 : (rdE (cuA s ⟨#[47]⟩)) = 0
 ·skip
  refine pH 33 (.bool true) (dTz ((rdE (cuA s ⟨#[47]⟩)) = 0) (c0)) ?_
  refine pV 34 (.bool true) ?_
  rcases Bool.eq_false_or_eq_true ((nmb 10 255 (cuB s ⟨#[47]⟩)).isSome) with c1 | c1
  ·skip
   refine pl_val (want_on 2 true rfl 34 rfl (by kernel_rfl)) (some 35) rfl (.bool true) (fun w => Eq.trans (b := .ok (.value (.bool (nmb 10 255 (cuB s ⟨#[47]⟩)).isSome)) w) (by kernel_rfl) (by rw [c1])) ?_
   refine pV 36 (.bool true) ?_
   refine pV 37 (.bool true) ?_
   refine pl_load M (want_on 5 true rfl 37 rfl (by kernel_rfl)) (some 38) rfl 39 _ rfl 2 g3 0 (by kernel_rfl) 4 39 (ls [.bool (rpV s), .int .u64 (rpH s), .int .u64 (rpL s), .int .u8 (rpB s)]) rfl 4 (ls [.bool (rpV s), .int .u64 (rpH s), .int .u64 (rpL s), .int .u8 (rpB s)]) (fun j _ => by rw [Nat.zero_add]) (by decide) _ Tryz.underlying39 rfl inz39 ?_
   refine pl_call M (want_on 5 true rfl 37 rfl (by kernel_rfl)) (some 39) rfl 24 #[.agg (av 4 (ls [.bool (rpV s), .int .u64 (rpH s), .int .u64 (rpL s), .int .u8 (rpB s)]))] (.string (ptx (rpV s) (rpH s) (rpL s) (rpB s))) (fun _ => by kernel_rfl) (fun w M => c_PrefixText (rpV s) (rpH s) (rpL s) (rpB s) (nmb_le _).1 (nmb_le _).2 w M.laid) fun u9 M => ?_
   refine pl_val (want_on 5 true rfl 37 rfl (by kernel_rfl)) (some 40) rfl (.string s) (fun _ => by kernel_rfl) ?_
   by_cases c2 : (ptx (rpV s) (rpH s) (rpL s) (rpB s)) = s
   ·skip
    refine pl_val (want_on 5 true rfl 37 rfl (by kernel_rfl)) (some 41) rfl (.bool true) (fun w => Eq.trans (b := .ok (.value (.bool ((ptx (rpV s) (rpH s) (rpL s) (rpB s)).toList == s.toList))) w) (by kernel_rfl) (by rw [seq_pos c2])) ?_
    refine pV 42 (.bool true) ?_
    refine nT ?_
    refine wp_cond_true (by kernel_rfl) ?_
    refine sR ?_
    refine pAz M 43 2 4 (ls [.bool (rpV s), .int .u64 (rpH s), .int .u64 (rpL s), .int .u8 (rpB s)]) ?_
    refine pl_put M (want_no rfl) rfl 39 _ _ rfl 0 g1 0 (by kernel_rfl) 4 39 (ls [.bool false, .int .u64 0, .int .u64 0, .int .u8 0]) rfl 4 (ls [.bool (rpV s), .int .u64 (rpH s), .int .u64 (rpL s), .int .u8 (rpB s)]) (ls [.bool (rpV s), .int .u64 (rpH s), .int .u64 (rpL s), .int .u8 (rpB s)]) (by kernel_rfl) inz39 (by decide) (one_ls _ rfl) (fun j hj => by rw [if_pos (by omega), Nat.sub_zero]) fun u10 M => ?_
    refine pV 3 (.int .i64 0) ?_
    refine nT ?_
    refine wp_ret ?_
    refine au_then_ret ?_
    have e0 : zB (rpE s) (rpV s) = rpV s := by rw [(show rpE s = 0 by unfold rpE; rw [if_pos c0, if_pos c1, if_pos c2])]; rfl
    have e1 : (zI (rpE s) (rpH s)) = (rpH s) := by rw [(show rpE s = 0 by unfold rpE; rw [if_pos c0, if_pos c1, if_pos c2])]; rfl
    have e2 : (zI (rpE s) (rpL s)) = (rpL s) := by rw [(show rpE s = 0 by unfold rpE; rw [if_pos c0, if_pos c1, if_pos c2])]; rfl
    have e3 : (zI (rpE s) (rpB s)) = (rpB s) := by rw [(show rpE s = 0 by unfold rpE; rw [if_pos c0, if_pos c1, if_pos c2])]; rfl
    have e4 : (rpE s) = 0 := (show rpE s = 0 by unfold rpE; rw [if_pos c0, if_pos c1, if_pos c2])
    exact bodyPost_ret (v := .tuple #[.agg (av 4 (ls [.bool (rpV s), .int .u64 (rpH s), .int .u64 (rpL s), .int .u8 (rpB s)])), .int .i64 0]) (results_cell_tmp Tryz.results20 _ _ g1 39 (av 4 (ls [.bool (rpV s), .int .u64 (rpH s), .int .u64 (rpL s), .int .u8 (rpB s)])) (0, 0) _ _ (by kernel_rfl) (by kernel_rfl) (M.get 0 rfl) Tryz.underlying39 rfl (by rw [av_size]; exact inz39)) (by kernel_rfl) ⟨by rw [e0, e1, e2, e3, e4], below_grown M.old⟩
   ·skip
    refine pl_val (want_on 5 true rfl 37 rfl (by kernel_rfl)) (some 41) rfl (.bool false) (fun w => Eq.trans (b := .ok (.value (.bool ((ptx (rpV s) (rpH s) (rpL s) (rpB s)).toList == s.toList))) w) (by kernel_rfl) (by rw [seq_neg c2])) ?_
    refine pV 42 (.bool false) ?_
    refine nT ?_
    refine wp_cond_false (by kernel_rfl) ?_
    refine wp_skip ?_
    refine au_then ?_
    refine sR ?_
    refine pV 44 (.agg (av 4 (ls [.bool false, .int .u64 0, .int .u64 0, .int .u8 0]))) ?_
    refine pl_put M (want_no rfl) rfl 39 _ _ rfl 0 g1 0 (by kernel_rfl) 4 39 (ls [.bool false, .int .u64 0, .int .u64 0, .int .u8 0]) rfl 4 (ls [.bool false, .int .u64 0, .int .u64 0, .int .u8 0]) (ls [.bool false, .int .u64 0, .int .u64 0, .int .u8 0]) (by kernel_rfl) inz39 (by decide) (one_ls _ rfl) (fun j hj => by rw [if_pos (by omega), Nat.sub_zero]) fun u10 M => ?_
    refine pV 3 (.int .i64 8) ?_
    refine nT ?_
    refine wp_ret ?_
    have e0 : zB (rpE s) (rpV s) = false := by rw [(show rpE s = 8 by unfold rpE; rw [if_pos c0, if_pos c1, if_neg c2])]; rfl
    have e1 : (zI (rpE s) (rpH s)) = 0 := by rw [(show rpE s = 8 by unfold rpE; rw [if_pos c0, if_pos c1, if_neg c2])]; rfl
    have e2 : (zI (rpE s) (rpL s)) = 0 := by rw [(show rpE s = 8 by unfold rpE; rw [if_pos c0, if_pos c1, if_neg c2])]; rfl
    have e3 : (zI (rpE s) (rpB s)) = 0 := by rw [(show rpE s = 8 by unfold rpE; rw [if_pos c0, if_pos c1, if_neg c2])]; rfl
    have e4 : (rpE s) = 8 := (show rpE s = 8 by unfold rpE; rw [if_pos c0, if_pos c1, if_neg c2])
    exact bodyPost_ret (v := .tuple #[.agg (av 4 (ls [.bool false, .int .u64 0, .int .u64 0, .int .u8 0])), .int .i64 8]) (results_cell_tmp Tryz.results20 _ _ g1 39 (av 4 (ls [.bool false, .int .u64 0, .int .u64 0, .int .u8 0])) (0, 0) _ _ (by kernel_rfl) (by kernel_rfl) (M.get 0 rfl) Tryz.underlying39 rfl (by rw [av_size]; exact inz39)) (by kernel_rfl) ⟨by rw [e0, e1, e2, e3, e4], below_grown M.old⟩
  ·skip
   refine pl_val (want_on 2 true rfl 34 rfl (by kernel_rfl)) (some 35) rfl (.bool false) (fun w => Eq.trans (b := .ok (.value (.bool (nmb 10 255 (cuB s ⟨#[47]⟩)).isSome)) w) (by kernel_rfl) (by rw [c1])) ?_
   refine pV 36 (.bool false) ?_
   refine pV 37 (.bool false) ?_
   refine pl_skip (want_off 5 true rfl 37 rfl (by kernel_rfl)) (some 38) rfl ?_
   refine pl_skip (want_off 5 true rfl 37 rfl (by kernel_rfl)) (some 39) rfl ?_
   refine pl_skip (want_off 5 true rfl 37 rfl (by kernel_rfl)) (some 40) rfl ?_
   refine pl_skip (want_off 5 true rfl 37 rfl (by kernel_rfl)) (some 41) rfl ?_
   refine pV 42 (.bool false) ?_
   refine nT ?_
   refine wp_cond_false (by kernel_rfl) ?_
   refine wp_skip ?_
   refine au_then ?_
   refine sR ?_
   refine pV 44 (.agg (av 4 (ls [.bool false, .int .u64 0, .int .u64 0, .int .u8 0]))) ?_
   refine pl_put M (want_no rfl) rfl 39 _ _ rfl 0 g1 0 (by kernel_rfl) 4 39 (ls [.bool false, .int .u64 0, .int .u64 0, .int .u8 0]) rfl 4 (ls [.bool false, .int .u64 0, .int .u64 0, .int .u8 0]) (ls [.bool false, .int .u64 0, .int .u64 0, .int .u8 0]) (by kernel_rfl) inz39 (by decide) (one_ls _ rfl) (fun j hj => by rw [if_pos (by omega), Nat.sub_zero]) fun u9 M => ?_
   refine pV 3 (.int .i64 8) ?_
   refine nT ?_
   refine wp_ret ?_
   have e0 : zB (rpE s) (rpV s) = false := by rw [(show rpE s = 8 by unfold rpE; rw [if_pos c0, if_neg (by rw [c1]; decide)])]; rfl
   have e1 : (zI (rpE s) (rpH s)) = 0 := by rw [(show rpE s = 8 by unfold rpE; rw [if_pos c0, if_neg (by rw [c1]; decide)])]; rfl
   have e2 : (zI (rpE s) (rpL s)) = 0 := by rw [(show rpE s = 8 by unfold rpE; rw [if_pos c0, if_neg (by rw [c1]; decide)])]; rfl
   have e3 : (zI (rpE s) (rpB s)) = 0 := by rw [(show rpE s = 8 by unfold rpE; rw [if_pos c0, if_neg (by rw [c1]; decide)])]; rfl
   have e4 : (rpE s) = 8 := (show rpE s = 8 by unfold rpE; rw [if_pos c0, if_neg (by rw [c1]; decide)])
   exact bodyPost_ret (v := .tuple #[.agg (av 4 (ls [.bool false, .int .u64 0, .int .u64 0, .int .u8 0])), .int .i64 8]) (results_cell_tmp Tryz.results20 _ _ g1 39 (av 4 (ls [.bool false, .int .u64 0, .int .u64 0, .int .u8 0])) (0, 0) _ _ (by kernel_rfl) (by kernel_rfl) (M.get 0 rfl) Tryz.underlying39 rfl (by rw [av_size]; exact inz39)) (by kernel_rfl) ⟨by rw [e0, e1, e2, e3, e4], below_grown M.old⟩
 ·skip
  refine pH 33 (.bool false) (dF ((rdE (cuA s ⟨#[47]⟩)) = 0) (c0)) ?_
  refine pV 34 (.bool false) ?_
  refine pl_skip (want_off 2 true rfl 34 rfl (by kernel_rfl)) (some 35) rfl ?_
  refine pV 36 (.bool false) ?_
  refine pV 37 (.bool false) ?_
  refine pl_skip (want_off 5 true rfl 37 rfl (by kernel_rfl)) (some 38) rfl ?_
  refine pl_skip (want_off 5 true rfl 37 rfl (by kernel_rfl)) (some 39) rfl ?_
  refine pl_skip (want_off 5 true rfl 37 rfl (by kernel_rfl)) (some 40) rfl ?_
  refine pl_skip (want_off 5 true rfl 37 rfl (by kernel_rfl)) (some 41) rfl ?_
  refine pV 42 (.bool false) ?_
  refine nT ?_
  refine wp_cond_false (by kernel_rfl) ?_
  refine wp_skip ?_
  refine au_then ?_
  refine sR ?_
  refine pV 44 (.agg (av 4 (ls [.bool false, .int .u64 0, .int .u64 0, .int .u8 0]))) ?_
  refine pl_put M (want_no rfl) rfl 39 _ _ rfl 0 g1 0 (by kernel_rfl) 4 39 (ls [.bool false, .int .u64 0, .int .u64 0, .int .u8 0]) rfl 4 (ls [.bool false, .int .u64 0, .int .u64 0, .int .u8 0]) (ls [.bool false, .int .u64 0, .int .u64 0, .int .u8 0]) (by kernel_rfl) inz39 (by decide) (one_ls _ rfl) (fun j hj => by rw [if_pos (by omega), Nat.sub_zero]) fun u9 M => ?_
  refine pV 3 (.int .i64 8) ?_
  refine nT ?_
  refine wp_ret ?_
  have e0 : zB (rpE s) (rpV s) = false := by rw [(show rpE s = 8 by unfold rpE; rw [if_neg c0])]; rfl
  have e1 : (zI (rpE s) (rpH s)) = 0 := by rw [(show rpE s = 8 by unfold rpE; rw [if_neg c0])]; rfl
  have e2 : (zI (rpE s) (rpL s)) = 0 := by rw [(show rpE s = 8 by unfold rpE; rw [if_neg c0])]; rfl
  have e3 : (zI (rpE s) (rpB s)) = 0 := by rw [(show rpE s = 8 by unfold rpE; rw [if_neg c0])]; rfl
  have e4 : (rpE s) = 8 := (show rpE s = 8 by unfold rpE; rw [if_neg c0])
  exact bodyPost_ret (v := .tuple #[.agg (av 4 (ls [.bool false, .int .u64 0, .int .u64 0, .int .u8 0])), .int .i64 8]) (results_cell_tmp Tryz.results20 _ _ g1 39 (av 4 (ls [.bool false, .int .u64 0, .int .u64 0, .int .u8 0])) (0, 0) _ _ (by kernel_rfl) (by kernel_rfl) (M.get 0 rfl) Tryz.underlying39 rfl (by rw [av_size]; exact inz39)) (by kernel_rfl) ⟨by rw [e0, e1, e2, e3, e4], below_grown M.old⟩
end Go.Proofs.YtndonmdgplojnaaGreatDoor

namespace Go.Proofs.YtndonmdgplojnaaGreatDoor
open Go.RowKit
theorem dgt_ok : ∀ k, k < 16 → dv (dgt k) = (k : Int) ∧ 0 ≤ dgt k ∧ dgt k < 256 ∧ dgt k ≠ 46 ∧ dgt k ≠ 47 ∧ dgt k ≠ 58 := by decide +kernel
theorem dec_ok : ∀ n : Nat, n < 256 → nmb 10 255 (dcT (n : Int)) = some (n : Int) ∧ dcT (n : Int) ≠ ⟨#[]⟩ ∧ (46 : UInt8) ∉ (dcT (n : Int)).data.toList ∧ (47 : UInt8) ∉ (dcT (n : Int)).data.toList ∧ (58 : UInt8) ∉ (dcT (n : Int)).data.toList := by decide +kernel
theorem pz_step (b m : Int) (s : ByteArray) (j : Nat) (a k : Int) (h : pz b m s j = some a) (hk : dv (bt s j) = k) (h1 : k < b) (h2 : a * b + k ≤ m) : pz b m s (j + 1) = some (a * b + k) := by
 rw [pz, h, Option.bind_some, hk, if_pos h1, if_neg (by omega)]
theorem bs_mem (l : List Int) (c : UInt8) (hl : ∀ x ∈ l, 0 ≤ x ∧ x < 256 ∧ x ≠ (c.toNat : Int)) : c ∉ (bs l).data.toList := by
 intro h
 unfold bs at h
 simp only [List.mem_map] at h
 obtain ⟨x, hx, e⟩ := h
 have ⟨h0, h1, h2⟩ := hl x hx
 apply h2
 rw [← e]
 simp
 omega
def hxD (n : Nat) : List Nat := if n < 16 then [n] else if n < 256 then [n / 16, n % 16] else if n < 4096 then [n / 16 / 16, n / 16 % 16, n % 16] else [n / 16 / 16 / 16, n / 16 / 16 % 16, n / 16 % 16, n % 16]
theorem hxT_eq (n : Nat) : hxT n = bs ((hxD n).map dgt) := by
 unfold hxT hxD
 split
 ·rfl
 split
 ·rfl
 split <;> rfl
theorem hxD_lt (n : Nat) (h : n < 65536) : ∀ k ∈ hxD n, k < 16 := by
 intro k hk
 unfold hxD at hk
 split at hk
 ·simp at hk; omega
 split at hk
 ·simp at hk; omega
 split at hk
 ·simp at hk; omega
 ·simp at hk; omega
theorem hx_bt (ks : List Nat) (h : ∀ k ∈ ks, k < 16) (j : Nat) (k : Nat) (hj : ks[j]? = some k) : dv (bt (bs (ks.map dgt)) j) = (k : Int) := by
 have hb : ∀ x ∈ ks.map dgt, 0 ≤ x ∧ x < 256 := by
  intro x hx
  obtain ⟨k, hk, rfl⟩ := List.mem_map.1 hx
  have := dgt_ok k (h k hk)
  exact ⟨this.2.1, this.2.2.1⟩
 rw [bt_bs _ hb, List.getD_eq_getElem?_getD, List.getElem?_map, hj]
 exact (dgt_ok k (h k (List.mem_of_getElem? hj))).1
theorem hx_nmb (n : Nat) (h : n < 65536) : nmb 16 65535 (hxT n) = some (n : Int) := by
 have hl := hxD_lt n h
 have hz := hxT_size n
 have hb := hx_bt (hxD n) hl
 have p0 : pz 16 65535 (hxT n) 0 = some 0 := rfl
 have hs : (hxT n).size = (hxD n).length := by rw [hxT_eq, bs_size, List.length_map]
 have hne : 0 < (hxD n).length := by
  unfold hxD
  split
  ·simp
  split
  ·simp
  split <;> simp
 unfold nmb prs
 rw [if_neg (by omega), if_neg (fun e => by rw [e] at hs; have : (ByteArray.mk #[]).size = 0 := rfl; omega), hs]
 rw [← hxT_eq] at hb
 unfold hxD at hb ⊢
 split
 ·rename_i c1
  rw [if_pos c1] at hb
  have := pz_step 16 65535 _ 0 0 n p0 (hb 0 _ rfl) (by omega) (by omega)
  rw [show (0 : Int) * 16 + n = n by omega] at this
  exact this
 ·rename_i c1
  rw [if_neg c1] at hb
  split
  ·rename_i c2
   rw [if_pos c2] at hb
   have p1 := pz_step 16 65535 _ 0 0 _ p0 (hb 0 _ rfl) (by omega) (by omega)
   have p2 := pz_step 16 65535 _ 1 _ _ p1 (hb 1 _ rfl) (by omega) (by omega)
   refine p2.trans (congrArg some ?_)
   omega
  ·rename_i c2
   rw [if_neg c2] at hb
   split
   ·rename_i c3
    rw [if_pos c3] at hb
    have p1 := pz_step 16 65535 _ 0 0 _ p0 (hb 0 _ rfl) (by omega) (by omega)
    have p2 := pz_step 16 65535 _ 1 _ _ p1 (hb 1 _ rfl) (by omega) (by omega)
    have p3 := pz_step 16 65535 _ 2 _ _ p2 (hb 2 _ rfl) (by omega) (by omega)
    refine p3.trans (congrArg some ?_)
    omega
   ·rename_i c3
    rw [if_neg c3] at hb
    have p1 := pz_step 16 65535 _ 0 0 _ p0 (hb 0 _ rfl) (by omega) (by omega)
    have p2 := pz_step 16 65535 _ 1 _ _ p1 (hb 1 _ rfl) (by omega) (by omega)
    have p3 := pz_step 16 65535 _ 2 _ _ p2 (hb 2 _ rfl) (by omega) (by omega)
    have p4 := pz_step 16 65535 _ 3 _ _ p3 (hb 3 _ rfl) (by omega) (by omega)
    refine p4.trans (congrArg some ?_)
    omega
theorem hx_ok (n : Nat) (h : n < 65536) : hxT n ≠ ⟨#[]⟩ ∧ (46 : UInt8) ∉ (hxT n).data.toList ∧ (47 : UInt8) ∉ (hxT n).data.toList ∧ (58 : UInt8) ∉ (hxT n).data.toList := by
 have hl := hxD_lt n h
 have hx : ∀ x ∈ (hxD n).map dgt, 0 ≤ x ∧ x < 256 ∧ x ≠ 46 ∧ x ≠ 47 ∧ x ≠ 58 := by
  intro x hx
  obtain ⟨k, hk, rfl⟩ := List.mem_map.1 hx
  exact (dgt_ok k (hl k hk)).2
 refine ⟨fun e => ?_, ?_, ?_, ?_⟩
 ·have := hx_nmb n h
  rw [e] at this
  cases this
 ·rw [hxT_eq]
  exact bs_mem _ _ fun x hm => ⟨(hx x hm).1, (hx x hm).2.1, (hx x hm).2.2.1⟩
 ·rw [hxT_eq]
  exact bs_mem _ _ fun x hm => ⟨(hx x hm).1, (hx x hm).2.1, (hx x hm).2.2.2.1⟩
 ·rw [hxT_eq]
  exact bs_mem _ _ fun x hm => ⟨(hx x hm).1, (hx x hm).2.1, (hx x hm).2.2.2.2⟩
theorem nl_words (b m : Int) (W : Nat → ByteArray) (f : Nat → Int) (n : Nat) (h : ∀ i, i < n → nmb b m (W i) = some (f i)) (j : Nat) (hj : j ≤ n) : nl b m ((List.range n).map W) j = some ((List.range j).map f) := by
 induction j with
 | zero => rfl
 | succ j ih =>
  have e : tg ((List.range n).map W) j = W j := by
   unfold tg
   rw [List.getD_eq_getElem?_getD, List.getElem?_map, List.getElem?_range (by omega)]
   rfl
  rw [nl, ih (by omega), Option.bind_some, e, h j (by omega), List.range_succ, List.map_append]
  rfl
theorem range_cons (n : Nat) (W : Nat → ByteArray) : (List.range (n + 1)).map W = W 0 :: (List.range n).map fun i => W (i + 1) := by
 rw [List.range_succ_eq_map, List.map_cons, List.map_map]
 rfl
theorem jn_zero (c : UInt8) (W : Nat → ByteArray) : jn ((List.range 0).map W) ⟨#[c]⟩ = ⟨#[]⟩ := rfl
theorem jn_ne (c : UInt8) (x : ByteArray) (r : List ByteArray) (h : x ≠ ⟨#[]⟩) : jn (x :: r) ⟨#[c]⟩ ≠ ⟨#[]⟩ := by
 intro e
 have e2 : Lib.join ((x :: r).map (·.data.toList)) [c] = [] := by
  have := congrArg (fun z : ByteArray => z.data.toList) e
  exact this
 rw [List.map_cons, Lib.join_cons] at e2
 have := (List.append_eq_nil_iff.1 e2).1
 exact h (ba_list this)
theorem nbs_jn (b m : Int) (c : UInt8) (W : Nat → ByteArray) (f : Nat → Int) (n : Nat) (h : ∀ i, i < n → nmb b m (W i) = some (f i)) (hc : ∀ i, i < n → c ∉ (W i).data.toList) (hn : ∀ i, i < n → W i ≠ ⟨#[]⟩) : nbs b m (jn ((List.range n).map W) ⟨#[c]⟩) ⟨#[c]⟩ = some ((List.range n).map f) := by
 unfold nbs
 cases n with
 | zero =>
  rw [if_pos (jn_zero c W)]
  rfl
 | succ n =>
  have e : spl (jn ((List.range (n + 1)).map W) ⟨#[c]⟩) ⟨#[c]⟩ = (List.range (n + 1)).map W := by
   rw [range_cons]
   refine spl_jn c _ _ ?_
   rw [← range_cons]
   intro y hy
   obtain ⟨i, hi, rfl⟩ := List.mem_map.1 hy
   exact hc i (List.mem_range.1 hi)
  rw [if_neg (by rw [range_cons]; exact jn_ne c _ _ (hn 0 (by omega))), e, List.length_map, List.length_range]
  exact nl_words b m W f (n + 1) h _ (Nat.le_refl _)
theorem jn_lone (c : UInt8) (W : Nat → ByteArray) (n : Nat) (hc : ∀ i, i < n → c ∉ (W i).data.toList) (hn : ∀ i, i < n → W i ≠ ⟨#[]⟩) : Lone c (jn ((List.range n).map W) ⟨#[c]⟩).data.toList := by
 cases n with
 | zero =>
  intro j hj
  rw [jn_zero c W] at hj
  simp at hj
 | succ n =>
  have e : (jn ((List.range (n + 1)).map W) ⟨#[c]⟩).data.toList = Lib.join ((W 0).data.toList :: ((List.range n).map fun i => (W (i + 1)).data.toList)) [c] := by
   rw [range_cons]
   unfold jn
   rw [List.map_cons, List.map_map]
   rfl
  rw [e]
  refine join_lone c _ _ ?_
  intro y hy
  have hy2 : ∃ i, i < n + 1 ∧ (W i).data.toList = y := by
   rcases List.mem_cons.1 hy with rfl | hy
   ·exact ⟨0, by omega, rfl⟩
   ·obtain ⟨i, hi, rfl⟩ := List.mem_map.1 hy
    exact ⟨i + 1, by have := List.mem_range.1 hi; omega, rfl⟩
  obtain ⟨i, hi, rfl⟩ := hy2
  exact ⟨hc i hi, fun e => hn i hi (ba_list e)⟩
theorem jn_mem (c d : UInt8) (W : Nat → ByteArray) (n : Nat) (hcd : d ≠ c) (hc : ∀ i, i < n → d ∉ (W i).data.toList) : d ∉ (jn ((List.range n).map W) ⟨#[c]⟩).data.toList := by
 cases n with
 | zero =>
  rw [jn_zero c W]
  simp
 | succ n =>
  have e : (jn ((List.range (n + 1)).map W) ⟨#[c]⟩).data.toList = Lib.join ((W 0).data.toList :: ((List.range n).map fun i => (W (i + 1)).data.toList)) [c] := by
   rw [range_cons]
   unfold jn
   rw [List.map_cons, List.map_map]
   rfl
  rw [e, Lib.join_cons]
  intro h
  rcases List.mem_append.1 h with h | h
  ·exact hc 0 (by omega) h
  ·unfold Lib.joinTail at h
   obtain ⟨l, hl, hm⟩ := List.mem_flatten.1 h
   obtain ⟨y, hy, rfl⟩ := List.mem_map.1 hl
   obtain ⟨i, hi, rfl⟩ := List.mem_map.1 hy
   rcases List.mem_append.1 hm with hm | hm
   ·simp at hm
    exact hcd hm
   ·exact hc (i + 1) (by have := List.mem_range.1 hi; omega) hm
theorem jn_size (c : UInt8) (W : Nat → ByteArray) (k n : Nat) (h : ∀ i, (W i).size ≤ k) : (jn ((List.range (n + 1)).map W) ⟨#[c]⟩).size ≤ n + (n + 1) * k := by
 have e : (jn ((List.range (n + 1)).map W) ⟨#[c]⟩).size = (Lib.join ((W 0).data.toList :: ((List.range n).map fun i => (W (i + 1)).data.toList)) [c]).length := by
  rw [range_cons]
  unfold jn
  rw [List.map_cons, List.map_map]
  simp [ByteArray.size]
  rfl
 have hz : ∀ (n : Nat) (V : Nat → ByteArray), (∀ i, (V i).size ≤ k) → (Lib.joinTail [c] ((List.range n).map fun i => (V i).data.toList)).length ≤ n * (1 + k) := by
  intro n
  induction n with
  | zero => intro V _; simp [Lib.joinTail]
  | succ n ih =>
   intro V hV
   have a := ih V hV
   have b := hV n
   have e : (V n).data.toList.length = (V n).size := rfl
   rw [List.range_succ, List.map_append]
   unfold Lib.joinTail at a ⊢
   rw [List.map_append, List.flatten_append, List.length_append]
   simp only [List.map_cons, List.map_nil, List.flatten_cons, List.flatten_nil, List.append_nil, List.length_append, List.length_cons, List.length_nil]
   rw [Nat.succ_mul]
   omega
 have h1 := hz n (fun i => W (i + 1)) fun i => h (i + 1)
 have h0 := h 0
 have e0 : (W 0).data.toList.length = (W 0).size := rfl
 rw [e, Lib.join_cons, List.length_append, e0]
 rw [Nat.mul_add, Nat.mul_one] at h1
 rw [Nat.succ_mul]
 omega
end Go.Proofs.YtndonmdgplojnaaGreatDoor

namespace Go.Proofs.YtndonmdgplojnaaGreatDoor
open Go.RowKit
theorem uo_sl (x y : Int) (i : Nat) (p : Int) (hp : p = 2 ^ i) (h0 : 0 ≤ x) (h1 : x * p + y < 18446744073709551616) (y0 : 0 ≤ y) (y1 : y < p) : uo (sl x i) y = x * p + y := by
 subst hp
 obtain ⟨n, rfl⟩ := Int.eq_ofNat_of_zero_le h0
 obtain ⟨c, rfl⟩ := Int.eq_ofNat_of_zero_le y0
 have hc : c < 2 ^ i := by
  have : ((c : Nat) : Int) < ((2 ^ i : Nat) : Int) := by
   rw [Int.natCast_pow]
   exact y1
  exact Int.ofNat_lt.1 this
 have e0 : (n : Int) * 2 ^ i = ((n * 2 ^ i : Nat) : Int) := by
  rw [Int.natCast_mul, Int.natCast_pow]
  rfl
 rw [e0] at h1 ⊢
 have hs : sl (n : Int) i = ((n * 2 ^ i : Nat) : Int) := by
  unfold sl
  rw [e0, IntKind.wrap_u64]
  omega
 have e1 : BitVec.ofInt 64 ((n * 2 ^ i : Nat) : Int) = BitVec.ofNat 64 (n * 2 ^ i) := rfl
 have e2 : BitVec.ofInt 64 (c : Int) = BitVec.ofNat 64 c := rfl
 unfold uo
 rw [hs, e1, e2, BitVec.toNat_or, BitVec.toNat_ofNat, BitVec.toNat_ofNat, Nat.mod_eq_of_lt (by omega), Nat.mod_eq_of_lt (by omega)]
 have e3 : n * 2 ^ i ||| c = n * 2 ^ i + c := by
  rw [Nat.mul_comm]
  exact (Nat.two_pow_add_eq_or_of_lt hc n).symm
 rw [e3, IntKind.wrap_u64]
 omega
theorem cv_16 (x : Int) : cv .u16 x = x % 65536 := by
 unfold cv
 simp [IntKind.wrap, IntKind.signed, IntKind.bits]
theorem sr_ed (x : Int) (n : Nat) : sr x n = x / 2 ^ n := by
 unfold sr
 rw [Int.fdiv_eq_ediv_of_nonneg _ (Int.le_of_lt (Int.pow_pos (by decide)))]
theorem ad_four (a b c d x : Int) (ha : a = x / 281474976710656 % 65536) (hb : b = x / 4294967296 % 65536) (hc : c = x / 65536 % 65536) (hd : d = x % 65536) (h0 : 0 ≤ x) (h1 : x < 18446744073709551616) :
  uo (sl (uo (sl (uo (sl (uo (sl 0 16) (cv .u64 a)) 16) (cv .u64 b)) 16) (cv .u64 c)) 16) (cv .u64 d) = x := by
 have cu : ∀ y : Int, 0 ≤ y ∧ y < 65536 → cv .u64 y = y := fun y hy => by
  rw [cv_u64]
  omega
 rw [cu a (by omega), cu b (by omega), cu c (by omega), cu d (by omega)]
 rw [uo_sl 0 a 16 65536 rfl (by omega) (by omega) (by omega) (by omega)]
 rw [uo_sl _ b 16 65536 rfl (by omega) (by omega) (by omega) (by omega)]
 rw [uo_sl _ c 16 65536 rfl (by omega) (by omega) (by omega) (by omega)]
 rw [uo_sl _ d 16 65536 rfl (by omega) (by omega) (by omega) (by omega)]
 omega
theorem gg_at (h l : Int) (j : Nat) (hj : j < 8) : ggs h l j = cv .u16 (sr (if 4 ≤ j then l else h) (48 - 16 * ((j % 4 : Nat) : Int)).toNat) := by
 unfold ggs cutf gp
 rw [if_pos hj]
theorem adH_ggs (h : Int) (l : Int) (h0 : 0 ≤ h) (h1 : h < 18446744073709551616) (f : Nat → Int) (e : ∀ j, j < 8 → f j = ggs h l j) : adH f = h := by
 unfold adH
 refine ad_four _ _ _ _ h ?_ ?_ ?_ ?_ h0 h1
 ·rw [e 0 (by omega), gg_at h l 0 (by omega), cv_16, sr_ed]; rfl
 ·rw [e 1 (by omega), gg_at h l 1 (by omega), cv_16, sr_ed]; rfl
 ·rw [e 2 (by omega), gg_at h l 2 (by omega), cv_16, sr_ed]; rfl
 ·rw [e 3 (by omega), gg_at h l 3 (by omega), cv_16, sr_ed]; show h / 1 % 65536 = _; rw [Int.ediv_one]
theorem adL_ggs (h : Int) (l : Int) (l0 : 0 ≤ l) (l1 : l < 18446744073709551616) (f : Nat → Int) (e : ∀ j, j < 8 → f j = ggs h l j) : adL f = l := by
 unfold adL
 refine ad_four _ _ _ _ l ?_ ?_ ?_ ?_ l0 l1
 ·rw [e 4 (by omega), gg_at h l 4 (by omega), cv_16, sr_ed]; rfl
 ·rw [e 5 (by omega), gg_at h l 5 (by omega), cv_16, sr_ed]; rfl
 ·rw [e 6 (by omega), gg_at h l 6 (by omega), cv_16, sr_ed]; rfl
 ·rw [e 7 (by omega), gg_at h l 7 (by omega), cv_16, sr_ed]; show l / 1 % 65536 = _; rw [Int.ediv_one]
theorem uS_zero (f : Nat → Int) (j : Nat) : (∀ i : Nat, (uS f j).1 ≤ (i : Int) → i < j → f i = 0) ∧ (∀ i : Nat, (uS f j).2.1 ≤ (i : Int) → (i : Int) < (uS f j).2.2 → f i = 0) := by
 induction j with
 | zero => exact ⟨fun i _ h => by omega, fun i h1 h2 => by have e1 : (uS f 0).2.1 = 0 := rfl; have e2 : (uS f 0).2.2 = 0 := rfl; omega⟩
 | succ j ih =>
  obtain ⟨a, b⟩ := ih
  have key : ∀ i : Nat, (if f j = 0 then (uS f j).1 else (j : Int) + 1) ≤ (i : Int) → i < j + 1 → f i = 0 := by
   intro i h1 h2
   by_cases e : f j = 0
   ·rw [if_pos e] at h1
    by_cases e2 : i = j
    ·rw [e2]; exact e
    ·exact a i h1 (by omega)
   ·rw [if_neg e] at h1
    omega
  have e : uS f (j + 1) = if max ((uS f j).2.2 - (uS f j).2.1) 1 < (j : Int) + 1 - (if f j = 0 then (uS f j).1 else (j : Int) + 1) then ((if f j = 0 then (uS f j).1 else (j : Int) + 1), (if f j = 0 then (uS f j).1 else (j : Int) + 1), (j : Int) + 1) else ((if f j = 0 then (uS f j).1 else (j : Int) + 1), (uS f j).2.1, (uS f j).2.2) := rfl
  by_cases c : max ((uS f j).2.2 - (uS f j).2.1) 1 < (j : Int) + 1 - (if f j = 0 then (uS f j).1 else (j : Int) + 1)
  ·rw [e, if_pos c]
   exact ⟨key, fun i h1 h2 => key i h1 (by have h3 : (i : Int) < (j : Int) + 1 := h2; omega)⟩
  ·rw [e, if_neg c]
   exact ⟨key, b⟩
theorem u_zero (f : Nat → Int) (i : Nat) (h1 : uF f ≤ i) (h2 : i < uT f) : f i = 0 := by
 have n := uS_nn f 8
 unfold uF at h1
 unfold uT at h2
 exact (uS_zero f 8).2 i (by omega) (by omega)
theorem map_tgi (f : Nat → Int) (n i : Nat) (h : i < n) : tgi ((List.range n).map f) i = f i := by
 unfold tgi
 rw [List.getD_eq_getElem?_getD, List.getElem?_map, List.getElem?_range h]
 rfl
theorem hxW (f : Nat → Int) (hf : ∀ i, 0 ≤ f i ∧ f i < 65536) (i : Nat) : nmb 16 65535 (hxT (f i).toNat) = some (f i) := by
 have := hf i
 rw [hx_nmb _ (by omega)]
 congr 1
 omega
theorem hxN (f : Nat → Int) (hf : ∀ i, 0 ≤ f i ∧ f i < 65536) (i : Nat) : hxT (f i).toNat ≠ ⟨#[]⟩ ∧ (46 : UInt8) ∉ (hxT (f i).toNat).data.toList ∧ (47 : UInt8) ∉ (hxT (f i).toNat).data.toList ∧ (58 : UInt8) ∉ (hxT (f i).toNat).data.toList := by
 have := hf i
 exact hx_ok _ (by omega)
theorem lk6_tx6 (h : Int) (l : Int) (h0 : 0 ≤ h) (h1 : h < 18446744073709551616) (l0 : 0 ≤ l) (l1 : l < 18446744073709551616) : lk6 (tx6 h l) = some (h, l) := by
 have hf := ggs_nn h l
 have hu := uF_le (ggs h l)
 by_cases e : ((uF (ggs h l) : Nat) : Int) = ((uT (ggs h l) : Nat) : Int)
 ·have et : tx6 h l = jn (ws16 (ggs h l) 8) ⟨#[58]⟩ := if_pos e
  have lo : Lone 58 (jn (ws16 (ggs h l) 8) ⟨#[58]⟩).data.toList := jn_lone 58 _ 8 (fun i _ => (hxN _ hf i).2.2.2) (fun i _ => (hxN _ hf i).1)
  have n1 := nbs_jn 16 65535 58 _ (ggs h l) 8 (fun i _ => hxW _ hf i) (fun i _ => (hxN _ hf i).2.2.2) (fun i _ => (hxN _ hf i).1)
  have n2 : nbs 16 65535 ⟨#[]⟩ ⟨#[58]⟩ = some [] := rfl
  obtain ⟨c1, c2⟩ := cut2_no _ 58 lo
  unfold lk6
  rw [et, c1, c2, n2]
  unfold ws16
  rw [n1]
  have ef : ∀ j, j < 8 → g6 ((List.range 8).map (ggs h l)) [] j = ggs h l j := by
   intro j hj
   unfold g6
   rw [cpl_nil]
   unfold cpl
   rw [if_pos (by simp; omega), map_tgi _ _ _ (by omega)]
   rfl
  show (if _ then none else some (adH _, adL _)) = _
  rw [if_neg (by simp), adH_ggs h l h0 h1 _ ef, adL_ggs h l l0 l1 _ ef]
 ·have et : tx6 h l = (jn (ws16 (ggs h l) (uF (ggs h l))) ⟨#[58]⟩ ++ (⟨#[58, 58]⟩ : ByteArray)) ++ jn (ws16 (fun i => ggs h l (uT (ggs h l) + i)) (8 - uT (ggs h l))) ⟨#[58]⟩ := if_neg e
  have lo : Lone 58 (jn (ws16 (ggs h l) (uF (ggs h l))) ⟨#[58]⟩).data.toList := jn_lone 58 _ _ (fun i _ => (hxN _ hf i).2.2.2) (fun i _ => (hxN _ hf i).1)
  have n1 := nbs_jn 16 65535 58 _ (ggs h l) (uF (ggs h l)) (fun i _ => hxW _ hf i) (fun i _ => (hxN _ hf i).2.2.2) (fun i _ => (hxN _ hf i).1)
  have n2 := nbs_jn 16 65535 58 _ (fun i => ggs h l (uT (ggs h l) + i)) (8 - uT (ggs h l)) (fun i _ => hxW _ hf (uT (ggs h l) + i)) (fun i _ => (hxN _ hf (uT (ggs h l) + i)).2.2.2) (fun i _ => (hxN _ hf (uT (ggs h l) + i)).1)
  obtain ⟨c1, c2⟩ := cut2 _ (jn (ws16 (fun i => ggs h l (uT (ggs h l) + i)) (8 - uT (ggs h l))) ⟨#[58]⟩) 58 lo
  unfold lk6
  rw [et, c1, c2]
  unfold ws16
  rw [n1, n2]
  have ef : ∀ j, j < 8 → g6 ((List.range (uF (ggs h l))).map (ggs h l)) ((List.range (8 - uT (ggs h l))).map fun i => ggs h l (uT (ggs h l) + i)) j = ggs h l j := by
   intro j hj
   unfold g6 cpl
   simp only [List.length_map, List.length_range]
   split
   ·rename_i c
    rw [map_tgi _ _ _ (by omega)]
    congr 1
    omega
   ·split
    ·rw [map_tgi _ _ _ (by omega)]
     congr 1
    ·exact (u_zero _ j (by omega) (by omega)).symm
  show (if _ then none else some (adH _, adL _)) = _
  rw [if_neg (by simp only [List.length_map, List.length_range]; omega), adH_ggs h l h0 h1 _ ef, adL_ggs h l l0 l1 _ ef]
theorem tx6_ctn (h l : Int) : ctn (tx6 h l) ⟨#[58]⟩ = true := by
 unfold tx6
 split
 ·have e : (jn (ws16 (ggs h l) 8) ⟨#[58]⟩).data.toList = (hxT (ggs h l 0).toNat).data.toList ++ 58 :: (jn ((List.range 7).map fun i => hxT (ggs h l (i + 1)).toNat) ⟨#[58]⟩).data.toList := by
   unfold ws16
   rw [range_cons, range_cons]
   exact join_two _ _ _ _
  exact ctn_yes _ _ _ 58 e
 ·refine ctn_yes (jn (ws16 (ggs h l) (uF (ggs h l))) ⟨#[58]⟩) ((⟨#[58]⟩ : ByteArray) ++ jn (ws16 (fun i => ggs h l (uT (ggs h l) + i)) (8 - uT (ggs h l))) ⟨#[58]⟩) _ 58 ?_
  simp [ByteArray.data_append]
theorem tx6_size (h l : Int) : (tx6 h l).size ≤ 39 := by
 have hu := uF_le (ggs h l)
 have js : ∀ (f : Nat → Int) (n : Nat), (jn (ws16 f n) ⟨#[58]⟩).size ≤ 5 * n := by
  intro f n
  cases n with
  | zero => exact Nat.le_refl _
  | succ n =>
   have := jn_size 58 (fun i => hxT (f i).toNat) 4 n fun i => hxT_size _
   unfold ws16
   omega
 unfold tx6
 split
 ·have := jn_size 58 (fun i => hxT (ggs h l i).toNat) 4 7 fun i => hxT_size _
  unfold ws16
  exact Nat.le_trans this (by decide)
 ·rename_i e
  have a := js (ggs h l) (uF (ggs h l))
  have b := js (fun i => ggs h l (uT (ggs h l) + i)) (8 - uT (ggs h l))
  have z : (⟨#[58, 58]⟩ : ByteArray).size = 2 := rfl
  rw [ByteArray.size_append, ByteArray.size_append, z]
  omega
theorem qd_four (a b c d x : Int) (ha : a = x / 16777216 % 256) (hb : b = x / 65536 % 256) (hc : c = x / 256 % 256) (hd : d = x % 256) (h0 : 0 ≤ x) (h1 : x < 4294967296) :
  uo (sl (uo (sl (uo (sl (uo (sl 0 8) (cv .u64 a)) 8) (cv .u64 b)) 8) (cv .u64 c)) 8) (cv .u64 d) = x := by
 have cu : ∀ y : Int, 0 ≤ y ∧ y < 256 → cv .u64 y = y := fun y hy => by
  rw [cv_u64]
  omega
 rw [cu a (by omega), cu b (by omega), cu c (by omega), cu d (by omega)]
 rw [uo_sl 0 a 8 256 rfl (by omega) (by omega) (by omega) (by omega)]
 rw [uo_sl _ b 8 256 rfl (by omega) (by omega) (by omega) (by omega)]
 rw [uo_sl _ c 8 256 rfl (by omega) (by omega) (by omega) (by omega)]
 rw [uo_sl _ d 8 256 rfl (by omega) (by omega) (by omega) (by omega)]
 omega
theorem q4_four (l : Int) (l0 : 0 ≤ l) (l1 : l < 4294967296) : q4 ((List.range 4).map (qf l)) 4 = l := by
 have e : ∀ j, j < 4 → tgi ((List.range 4).map (qf l)) j = l / 2 ^ (24 - 8 * (j : Int)).toNat % 256 := by
  intro j hj
  rw [map_tgi _ _ _ hj]
  unfold qf cutf qp
  rw [if_pos hj, sr_ed, cv_16, cv_u8]
  generalize l / 2 ^ (24 - 8 * (j : Int)).toNat = z
  omega
 have e0 := e 0 (by omega)
 have e1 := e 1 (by omega)
 have e2 := e 2 (by omega)
 have e3 := e 3 (by omega)
 have k0 : (2 : Int) ^ (24 - 8 * ((0 : Nat) : Int)).toNat = 16777216 := rfl
 have k1 : (2 : Int) ^ (24 - 8 * ((1 : Nat) : Int)).toNat = 65536 := rfl
 have k2 : (2 : Int) ^ (24 - 8 * ((2 : Nat) : Int)).toNat = 256 := rfl
 have k3 : (2 : Int) ^ (24 - 8 * ((3 : Nat) : Int)).toNat = 1 := rfl
 rw [k0] at e0
 rw [k1] at e1
 rw [k2] at e2
 rw [k3, Int.ediv_one] at e3
 unfold q4 q4 q4 q4 q4
 exact qd_four _ _ _ _ l e0 e1 e2 e3 l0 l1
theorem dcW (l : Int) (i : Nat) : nmb 10 255 (dcT (((qf l i).toNat : Nat) : Int)) = some (qf l i) ∧ dcT (((qf l i).toNat : Nat) : Int) ≠ ⟨#[]⟩ ∧ (46 : UInt8) ∉ (dcT (((qf l i).toNat : Nat) : Int)).data.toList ∧ (47 : UInt8) ∉ (dcT (((qf l i).toNat : Nat) : Int)).data.toList ∧ (58 : UInt8) ∉ (dcT (((qf l i).toNat : Nat) : Int)).data.toList := by
 have := qf_nn l i
 obtain ⟨a, b⟩ := dec_ok (qf l i).toNat (by omega)
 refine ⟨a.trans ?_, b⟩
 congr 1
 omega
theorem lk4_tx4 (l : Int) (l0 : 0 ≤ l) (l1 : l < 4294967296) : lk4 (tx4 l) = some l := by
 have n1 := nbs_jn 10 255 46 _ (qf l) 4 (fun i _ => (dcW l i).1) (fun i _ => (dcW l i).2.2.1) (fun i _ => (dcW l i).2.1)
 unfold lk4 tx4 ws10
 rw [n1]
 show (if _ then some _ else none) = _
 rw [if_pos (by simp), q4_four l l0 l1]
theorem tx4_ctn (l : Int) : ctn (tx4 l) ⟨#[58]⟩ = false := by
 refine ctn_no _ 58 ?_
 unfold tx4 ws10
 exact jn_mem 46 58 _ 4 (by decide) fun i _ => (dcW l i).2.2.2.2
theorem tx4_size (l : Int) : (tx4 l).size ≤ 39 := by
 have := jn_size 46 (fun i => dcT (((qf l i).toNat : Nat) : Int)) 3 3 fun i => dcT_size _
 unfold tx4 ws10
 exact Nat.le_trans this (by decide)
theorem tx_slash (v : Bool) (h l : Int) : (47 : UInt8) ∉ (txt v h l).data.toList := by
 unfold txt
 split
 ·split
  ·unfold tx6
   have hf := ggs_nn h l
   split
   ·unfold ws16
    exact jn_mem 58 47 _ _ (by decide) fun i _ => (hxN _ hf i).2.2.1
   ·have a : (47 : UInt8) ∉ (jn (ws16 (ggs h l) (uF (ggs h l))) ⟨#[58]⟩).data.toList := jn_mem 58 47 _ _ (by decide) fun i _ => (hxN _ hf i).2.2.1
    have b : (47 : UInt8) ∉ (jn (ws16 (fun i => ggs h l (uT (ggs h l) + i)) (8 - uT (ggs h l))) ⟨#[58]⟩).data.toList := jn_mem 58 47 _ _ (by decide) fun i _ => (hxN _ hf (uT (ggs h l) + i)).2.2.1
    intro hm
    simp only [ByteArray.data_append, Array.toList_append, List.mem_append] at hm
    rcases hm with (hm | hm) | hm
    ·exact a hm
    ·simp at hm
    ·exact b hm
  ·unfold tx4 ws10
   exact jn_mem 46 47 _ 4 (by decide) fun i _ => (dcW l i).2.2.2.1
 ·simp
theorem read_txt (v : Bool) (h l : Int) (h0 : 0 ≤ h) (h1 : h < 18446744073709551616) (l0 : 0 ≤ l) (l1 : l < 18446744073709551616) (hm : mA v h l = true) : lI (txt v h l) = true ∧ lV (txt v h l) = v ∧ lH (txt v h l) = h ∧ lL (txt v h l) = l ∧ rdE (txt v h l) = 0 := by
 have key : lI (txt v h l) = true ∧ lV (txt v h l) = v ∧ lH (txt v h l) = h ∧ lL (txt v h l) = l := by
  unfold txt
  rw [if_pos hm]
  cases v
  ·rw [if_neg (by decide)]
   unfold mA at hm
   simp only [Bool.false_or, Bool.and_eq_true, decide_eq_true_eq] at hm
   have z := tx4_size l
   have c := tx4_ctn l
   have hz : ¬ (39 : Int) < ((tx4 l).size : Int) := by omega
   unfold lI lV lH lL
   simp only [if_neg hz, c, lk4_tx4 l l0 hm.2]
   exact ⟨rfl, rfl, hm.1.symm, rfl⟩
  ·rw [if_pos rfl]
   have z := tx6_size h l
   have c := tx6_ctn h l
   have hz : ¬ (39 : Int) < ((tx6 h l).size : Int) := by omega
   unfold lI lV lH lL
   simp only [if_neg hz, c, lk6_tx6 h l h0 h1 l0 l1]
   exact ⟨rfl, rfl, rfl, rfl⟩
 obtain ⟨a, b, c, d⟩ := key
 refine ⟨a, b, c, d, ?_⟩
 unfold rdE
 rw [if_pos a, b, c, d, if_pos rfl]
theorem mP_parts (v : Bool) (h l b : Int) (e : mP v h l b = true) : mA v h l = true := by
 unfold mP at e
 simp only [Bool.and_eq_true] at e
 exact e.1.1
theorem read_ptx (v : Bool) (h l b : Int) (h0 : 0 ≤ h) (h1 : h < 18446744073709551616) (l0 : 0 ≤ l) (l1 : l < 18446744073709551616) (b0 : 0 ≤ b) (b1 : b < 256) (hm : mP v h l b = true) : rpV (ptx v h l b) = v ∧ rpH (ptx v h l b) = h ∧ rpL (ptx v h l b) = l ∧ rpB (ptx v h l b) = b ∧ rpE (ptx v h l b) = 0 := by
 obtain ⟨_, a2, a3, a4, a5⟩ := read_txt v h l h0 h1 l0 l1 (mP_parts v h l b hm)
 have e : ptx v h l b = (txt v h l ++ (⟨#[47]⟩ : ByteArray)) ++ dcT b := if_pos hm
 obtain ⟨c1, c2⟩ := cut1 (txt v h l) (dcT b) 47 (tx_slash v h l)
 obtain ⟨n, rfl⟩ := Int.eq_ofNat_of_zero_le b0
 have nb := (dec_ok n (by omega)).1
 have k : rpV (ptx v h l n) = v ∧ rpH (ptx v h l n) = h ∧ rpL (ptx v h l n) = l ∧ rpB (ptx v h l n) = n := by
  unfold rpV rpH rpL rpB
  rw [e, c1, c2, a2, a3, a4, a5]
  refine ⟨rfl, rfl, rfl, ?_⟩
  show (nmb 10 255 (dcT (n : Int))).getD 0 = _
  rw [nb]
  rfl
 obtain ⟨k1, k2, k3, k4⟩ := k
 refine ⟨k1, k2, k3, k4, ?_⟩
 unfold rpE
 rw [k1, k2, k3, k4, if_pos rfl, e, c1, c2, a5, if_pos rfl]
 show (if (nmb 10 255 (dcT (n : Int))).isSome = true then _ else _) = _
 rw [nb]
 rfl
end Go.Proofs.YtndonmdgplojnaaGreatDoor

namespace Go.Proofs.YtndonmdgplojnaaGreatDoor
open Go.RowKit
def rlF (f : Nat → Int) (i : Nat) : Nat → Nat
 | 0 => 0
 | k + 1 => if f i = 0 then rlF f (i + 1) k + 1 else 0
def rl (f : Nat → Int) (i : Nat) : Nat := rlF f i (8 - i)
theorem rlF_le (f : Nat → Int) (k i : Nat) : rlF f i k ≤ k := by
 induction k generalizing i with
 | zero => exact Nat.le_refl _
 | succ k ih =>
  have := ih (i + 1)
  rw [rlF]
  split <;> omega
theorem rlF_in (f : Nat → Int) (k i j : Nat) (h : j < rlF f i k) : f (i + j) = 0 := by
 induction k generalizing i j with
 | zero => exact absurd h (by rw [rlF]; omega)
 | succ k ih =>
  rw [rlF] at h
  split at h
  ·rename_i c
   cases j with
   | zero => exact c
   | succ j =>
    have := ih (i + 1) j (by omega)
    rw [show i + (j + 1) = i + 1 + j by omega]
    exact this
  ·omega
theorem rlF_out (f : Nat → Int) (k i : Nat) (h : rlF f i k < k) : ¬ f (i + rlF f i k) = 0 := by
 induction k generalizing i with
 | zero => omega
 | succ k ih =>
  rw [rlF] at h ⊢
  split
  ·rename_i c
   rw [if_pos c] at h
   have := ih (i + 1) (by omega)
   rw [show i + (rlF f (i + 1) k + 1) = i + 1 + rlF f (i + 1) k by omega]
   exact this
  ·rename_i c
   exact c
theorem rl_le (f : Nat → Int) (i : Nat) : rl f i ≤ 8 - i := rlF_le f _ i
theorem rl_in (f : Nat → Int) (i j : Nat) (h : j < rl f i) : i + j < 8 ∧ f (i + j) = 0 := ⟨by have := rl_le f i; omega, rlF_in f _ i j h⟩
theorem rl_out (f : Nat → Int) (i : Nat) (h : i + rl f i < 8) : ¬ f (i + rl f i) = 0 := rlF_out f _ i (by unfold rl at h; omega)
def aM (f : Nat → Int) : Nat → Int × Int
 | 0 => (-1, 1)
 | i + 1 => if (aM f i).2 < (rl f i : Int) then ((i : Int), (rl f i : Int)) else aM f i
theorem rlF_cong (f g : Nat → Int) (h : ∀ i, i < 8 → (f i = 0 ↔ g i = 0)) (k i : Nat) (hk : i + k ≤ 8) : rlF f i k = rlF g i k := by
 induction k generalizing i with
 | zero => rfl
 | succ k ih =>
  rw [rlF, rlF, ih (i + 1) (by omega)]
  have := h i (by omega)
  by_cases c : f i = 0
  ·rw [if_pos c, if_pos (this.1 c)]
  ·rw [if_neg c, if_neg fun e => c (this.2 e)]
theorem aM_cong (f g : Nat → Int) (h : ∀ i, i < 8 → (f i = 0 ↔ g i = 0)) (j : Nat) (hj : j ≤ 8) : aM f j = aM g j := by
 induction j with
 | zero => rfl
 | succ j ih =>
  have e : rl f j = rl g j := rlF_cong f g h _ j (by omega)
  rw [aM, aM, ih (by omega), e]
theorem uS_cong (f g : Nat → Int) (h : ∀ i, i < 8 → (f i = 0 ↔ g i = 0)) (j : Nat) (hj : j ≤ 8) : uS f j = uS g j := by
 induction j with
 | zero => rfl
 | succ j ih =>
  rw [uS, uS, ih (by omega)]
  unfold uN
  have := h j (by omega)
  by_cases c : f j = 0
  ·simp only [if_pos c, if_pos (this.1 c)]
  ·simp only [if_neg c, if_neg fun e => c (this.2 e)]
def pat (b0 b1 b2 b3 b4 b5 b6 b7 : Bool) (i : Nat) : Int := if ([b0, b1, b2, b3, b4, b5, b6, b7].getD i false) = true then 0 else 1
theorem pat_all : ∀ b0 b1 b2 b3 b4 b5 b6 b7 : Bool, ((aM (pat b0 b1 b2 b3 b4 b5 b6 b7) 8).1 = -1 ∧ (uS (pat b0 b1 b2 b3 b4 b5 b6 b7) 8).2.1 = (uS (pat b0 b1 b2 b3 b4 b5 b6 b7) 8).2.2) ∨ (0 ≤ (aM (pat b0 b1 b2 b3 b4 b5 b6 b7) 8).1 ∧ 1 < (aM (pat b0 b1 b2 b3 b4 b5 b6 b7) 8).2 ∧ (uS (pat b0 b1 b2 b3 b4 b5 b6 b7) 8).2.1 = (aM (pat b0 b1 b2 b3 b4 b5 b6 b7) 8).1 ∧ (uS (pat b0 b1 b2 b3 b4 b5 b6 b7) 8).2.2 = (aM (pat b0 b1 b2 b3 b4 b5 b6 b7) 8).1 + (aM (pat b0 b1 b2 b3 b4 b5 b6 b7) 8).2) := by decide +kernel
theorem aM_uS (f : Nat → Int) : ((aM f 8).1 = -1 ∧ uF f = uT f) ∨ ((aM f 8).1 = (uF f : Int) ∧ (aM f 8).1 + (aM f 8).2 = (uT f : Int) ∧ uF f + 1 < uT f) := by
 have h : ∀ i, i < 8 → (f i = 0 ↔ pat (decide (f 0 = 0)) (decide (f 1 = 0)) (decide (f 2 = 0)) (decide (f 3 = 0)) (decide (f 4 = 0)) (decide (f 5 = 0)) (decide (f 6 = 0)) (decide (f 7 = 0)) i = 0) := by
  intro i hi
  have key : ∀ (p : Prop) [Decidable p], (p ↔ (if decide p = true then (0 : Int) else 1) = 0) := by
   intro p _
   by_cases c : p <;> simp [c]
  rcases i with _ | _ | _ | _ | _ | _ | _ | _ | i
  ·exact key (f 0 = 0)
  ·exact key (f 1 = 0)
  ·exact key (f 2 = 0)
  ·exact key (f 3 = 0)
  ·exact key (f 4 = 0)
  ·exact key (f 5 = 0)
  ·exact key (f 6 = 0)
  ·exact key (f 7 = 0)
  ·omega
 have n := uS_nn f 8
 have p := pat_all (decide (f 0 = 0)) (decide (f 1 = 0)) (decide (f 2 = 0)) (decide (f 3 = 0)) (decide (f 4 = 0)) (decide (f 5 = 0)) (decide (f 6 = 0)) (decide (f 7 = 0))
 rw [← aM_cong f _ h 8 (Nat.le_refl _), ← uS_cong f _ h 8 (Nat.le_refl _)] at p
 unfold uF uT
 rcases p with ⟨p1, p2⟩ | ⟨p1, p2, p3, p4⟩
 ·exact .inl ⟨p1, by rw [p2]⟩
 ·exact .inr ⟨by omega, by omega, by omega⟩
def sB (W : Nat → ByteArray) (at_ most : Int) : Nat → ByteArray
 | 0 => ⟨#[]⟩
 | i + 1 => if 0 ≤ at_ ∧ at_ ≤ (i : Int) ∧ (i : Int) < at_ + most then (if (i : Int) = at_ then sB W at_ most i ++ (⟨#[58, 58]⟩ : ByteArray) else sB W at_ most i) else (if 0 < (i : Int) ∧ ¬ (0 ≤ at_ ∧ (i : Int) = at_ + most) then sB W at_ most i ++ (⟨#[58]⟩ : ByteArray) else sB W at_ most i) ++ W i
theorem jn_succ (c : UInt8) (W : Nat → ByteArray) (n : Nat) : jn ((List.range (n + 1)).map W) ⟨#[c]⟩ = (if 0 < n then jn ((List.range n).map W) ⟨#[c]⟩ ++ (⟨#[c]⟩ : ByteArray) else jn ((List.range n).map W) ⟨#[c]⟩) ++ W n := by
 apply ba_list
 cases n with
 | zero =>
  rw [if_neg (by omega), jn_zero]
  show Lib.join [(W 0).data.toList] [c] = _
  rw [Lib.join_one]
  simp [ByteArray.data_append]
 | succ n =>
  rw [if_pos (by omega)]
  have e : ∀ m, (jn ((List.range (m + 1)).map W) ⟨#[c]⟩).data.toList = (W 0).data.toList ++ Lib.joinTail [c] ((List.range m).map fun i => (W (i + 1)).data.toList) := by
   intro m
   rw [range_cons]
   unfold jn
   rw [List.map_cons, List.map_map]
   exact Lib.join_cons _ _ _
  rw [e, ByteArray.data_append, ByteArray.data_append, Array.toList_append, Array.toList_append, e, List.range_succ, List.map_append]
  unfold Lib.joinTail
  simp
theorem sB_none (W : Nat → ByteArray) (most : Int) (i : Nat) : sB W (-1) most i = jn ((List.range i).map W) ⟨#[58]⟩ := by
 induction i with
 | zero => rfl
 | succ i ih =>
  rw [sB, if_neg (by omega), ih, jn_succ]
  by_cases c : 0 < i
  ·rw [if_pos c, if_pos (by omega)]
  ·rw [if_neg c, if_neg (by omega)]
theorem sB_some (W : Nat → ByteArray) (a b : Nat) (hab : a + 1 < b) (i : Nat) : sB W (a : Int) ((b : Int) - (a : Int)) i = if i ≤ a then jn ((List.range i).map W) ⟨#[58]⟩ else if i ≤ b then jn ((List.range a).map W) ⟨#[58]⟩ ++ (⟨#[58, 58]⟩ : ByteArray) else (jn ((List.range a).map W) ⟨#[58]⟩ ++ (⟨#[58, 58]⟩ : ByteArray)) ++ jn ((List.range (i - b)).map fun k => W (b + k)) ⟨#[58]⟩ := by
 induction i with
 | zero =>
  rw [if_pos (by omega)]
  rfl
 | succ i ih =>
  by_cases c1 : i + 1 ≤ a
  ·have q1 : ¬ (0 ≤ (a : Int) ∧ (a : Int) ≤ (i : Int) ∧ (i : Int) < (a : Int) + ((b : Int) - (a : Int))) := by omega
   rw [if_pos (by omega)] at ih
   rw [sB, if_neg q1, ih, if_pos c1, jn_succ]
   by_cases c : 0 < i
   ·have q2 : 0 < (i : Int) ∧ ¬ (0 ≤ (a : Int) ∧ (i : Int) = (a : Int) + ((b : Int) - (a : Int))) := by omega
    rw [if_pos c, if_pos q2]
   ·have q2 : ¬ (0 < (i : Int) ∧ ¬ (0 ≤ (a : Int) ∧ (i : Int) = (a : Int) + ((b : Int) - (a : Int)))) := by omega
    rw [if_neg c, if_neg q2]
  ·by_cases c2 : i + 1 ≤ b
   ·have q1 : 0 ≤ (a : Int) ∧ (a : Int) ≤ (i : Int) ∧ (i : Int) < (a : Int) + ((b : Int) - (a : Int)) := by omega
    rw [sB, if_pos q1, if_neg c1, if_pos c2]
    by_cases c3 : i = a
    ·subst c3
     rw [if_pos (Nat.le_refl _)] at ih
     rw [if_pos rfl, ih]
    ·rw [if_neg (by omega), if_pos (by omega)] at ih
     have q3 : ¬ (i : Int) = (a : Int) := by omega
     rw [if_neg q3, ih]
   ·have q1 : ¬ (0 ≤ (a : Int) ∧ (a : Int) ≤ (i : Int) ∧ (i : Int) < (a : Int) + ((b : Int) - (a : Int))) := by omega
    rw [sB, if_neg q1, if_neg c1, if_neg c2]
    by_cases c4 : i = b
    ·subst c4
     rw [if_neg (by omega), if_pos (Nat.le_refl _)] at ih
     have q2 : ¬ (0 < (i : Int) ∧ ¬ (0 ≤ (a : Int) ∧ (i : Int) = (a : Int) + ((i : Int) - (a : Int)))) := by omega
     rw [if_neg q2, ih, show i + 1 - i = 0 + 1 by omega, jn_succ, if_neg (by omega), jn_zero]
     congr 1
    ·rw [if_neg (by omega), if_neg (by omega)] at ih
     have q2 : 0 < (i : Int) ∧ ¬ (0 ≤ (a : Int) ∧ (i : Int) = (a : Int) + ((b : Int) - (a : Int))) := by omega
     rw [if_pos q2, ih, show i + 1 - b = (i - b) + 1 by omega, jn_succ, if_pos (by omega), show b + (i - b) = i by omega]
     simp only [ByteArray.append_assoc]
theorem sB_tx6 (h l : Int) : sB (fun i => hxT (ggs h l i).toNat) (aM (ggs h l) 8).1 (aM (ggs h l) 8).2 8 = tx6 h l := by
 have hu := uF_le (ggs h l)
 unfold tx6 ws16
 rcases aM_uS (ggs h l) with ⟨a, b⟩ | ⟨a, b, c⟩
 ·rw [a, sB_none, if_pos (by omega)]
 ·rw [if_neg (by omega), a, show (aM (ggs h l) 8).2 = (uT (ggs h l) : Int) - (uF (ggs h l) : Int) by omega, sB_some _ _ _ c, if_neg (by omega)]
  by_cases e : 8 ≤ uT (ggs h l)
  ·rw [if_pos e, show 8 - uT (ggs h l) = 0 by omega, jn_zero]
   apply ba_list
   simp [ByteArray.data_append]
  ·rw [if_neg e]
end Go.Proofs.YtndonmdgplojnaaGreatDoor
