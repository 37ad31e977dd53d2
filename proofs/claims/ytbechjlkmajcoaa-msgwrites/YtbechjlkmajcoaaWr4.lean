/- Part 4 of the walks and facts behind msgWrites_holds. -/
import Derived.Test.YtbechjlkmajcoaaWr3
namespace Go.Proofs.Ytbechjlkmajcoaa
open Go.RowKit
section
variable {P : Program} {ops : Array Oper} {a : Act} {w : World} {Q : Exit → Act → World → Prop}
theorem upon_then {o : Oper} {next : Act → World → Prop} {I : Act → World → Prop} (r) : o.upon P a next (Exit.then I Q) r = o.upon P a next Q r := by
 unfold Oper.upon
 split <;> rfl
theorem wpl_cut {I : Act → World → Prop} (l2 : List Oper) (h2 : ∀ a w, I a w → wpList P ops Q l2 a w) : ∀ (l1 : List Oper) (a : Act) (w : World), wpList P ops (Exit.then I Q) l1 a w → wpList P ops Q (l1 ++ l2) a w
 | [], a, w, h => h2 a w h
 | o :: l1, a, w, h => by
  unfold wpList at h
  rw [List.cons_append]
  unfold wpList
  split
  ·rename_i hw
   rw [if_pos hw] at h
   rcases h with h | h
   ·left
    unfold Oper.wp at h
    rw [upon_then] at h
    exact Oper.wp_mono (fun a w h => wpl_cut l2 h2 l1 a w h) h
   ·right
    exact h
  ·rename_i hw
   rw [if_neg hw] at h
   exact wpl_cut l2 h2 l1 _ _ h
theorem pl_cut {l : List Oper} (n : Nat) (I : Act → World → Prop) (h1 : PL P ops (Exit.then I Q) (l.take n) a w) (h2 : ∀ a w, I a w → PL P ops Q (l.drop n) a w) : PL P ops Q l a w := ⟨by
 have := wpl_cut (l.drop n) (fun a w h => (h2 a w h).out) (l.take n) a w h1.out
 rwa [List.take_append_drop] at this⟩
end
def dA1 (m : Mg) : Bool := !txP m.ty 70 m.fr 32
def dA2 (m : Mg) : Bool := dA1 m || !txP m.ty 84 m.tq 32
def dA3 (m : Mg) : Bool := dA2 m || !txP m.ty 88 m.tx 16
def dA4 (m : Mg) : Bool := dA3 m || !txP m.ty 83 m.sg 64
def dB_1 (m : Mg) : Bool := (!hsP m.ty 73 && !decide (m.ix = 0))
def dB_2 (m : Mg) : Bool := dB_1 m || (!hsP m.ty 80 && !decide (m.pe = 0))
def dB_3 (m : Mg) : Bool := dB_2 m || (!hsP m.ty 67 && !decide (m.ct = 0))
def dB_4 (m : Mg) : Bool := dB_3 m || (!hsP m.ty 66 && !decide (m.ba = 0))
def dB_5 (m : Mg) : Bool := dB_4 m || (!hsP m.ty 86 && !decide (m.ve = 0))
def dB_6 (m : Mg) : Bool := dB_5 m || (!hsP m.ty 75 && !decide (m.co = 0))
def dC1 (m : Mg) : Bool := (!hsP m.ty 78 && !decide (m.tt = ⟨#[]⟩))
def dC2 (m : Mg) : Bool := dC1 m || (!hsP m.ty 68 && !decide (m.da = ⟨#[]⟩))
def dC3 (m : Mg) : Bool := dC2 m || (!hsP m.ty 69 && !decide (m.ev = false ∧ m.eh = 0 ∧ m.el = 0 ∧ m.ep = 0))
def dC4 (m : Mg) : Bool := dC3 m || !mA m.ev m.eh m.el
def dE (m : Mg) : Int := if fdP m.ty = ⟨#[]⟩ then 150 else if dA4 m = true then 151 else if dB_6 m = true then 151 else if dC4 m = true then 151 else if 64 < (m.tt.size : Int) then 4 else if 32768 < (m.da.size : Int) then 4 else 0
set_option maxRecDepth 100000 in
set_option maxHeartbeats 4000000 in
set_option linter.unusedSimpArgs false in
theorem d_May (m : Mg) (w : World) (hL : Laid w)  :
  Calls Try.prog 15 #[.agg (av 17 (ls [.int .u8 m.ty, .string m.fr, .string m.tq, .int .u32 m.ix, .int .u32 m.pe, .int .u64 m.ct, .int .u64 m.ba, .int .u64 m.ve, .string m.tx, .bool (m.ev), .int .u64 m.eh, .int .u64 m.el, .int .u16 m.ep, .int .u16 m.co, .string m.tt, .string m.da, .string m.sg]))] w fun r w' => r = .returned (.int .i64 (dE m)) ∧ Below w.heap.size w w' := by
 go_enter Try.func15, Try.ntmps15
 have M := Mem.start hL
 refine sR ?_
 refine pN M 1 (.cells (av 17 (ls [.int .u8 m.ty, .string m.fr, .string m.tq, .int .u32 m.ix, .int .u32 m.pe, .int .u64 m.ct, .int .u64 m.ba, .int .u64 m.ve, .string m.tx, .bool (m.ev), .int .u64 m.eh, .int .u64 m.el, .int .u16 m.ep, .int .u16 m.co, .string m.tt, .string m.da, .string m.sg])) 30) fun g1 u1 M => ?_
 replace M : Mem ⟨w, []⟩ [⟨g1, .cells (av 17 (ls [.int .u8 m.ty, .string m.fr, .string m.tq, .int .u32 m.ix, .int .u32 m.pe, .int .u64 m.ct, .int .u64 m.ba, .int .u64 m.ve, .string m.tx, .bool (m.ev), .int .u64 m.eh, .int .u64 m.el, .int .u16 m.ep, .int .u16 m.co, .string m.tt, .string m.da, .string m.sg])) 30⟩] u1 := M
 refine pV 2 (.int .i64 0) ?_
 refine nT ?_
 refine sR ?_
 refine pV 4 (.pointer (some ⟨g1, 0, none⟩)) ?_
 refine pEz M 5 g1 0 (.int .u8 m.ty) (fun w M => M.cell 0 rfl (by decide) rfl) ?_
 refine pV 3 (.int .u8 m.ty) ?_
 refine nT ?_
 refine wp_seq ?_
 refine sR ?_
 refine pV 6 (.int .u8 m.ty) ?_
 refine pC M 7 24 #[.int .u8 m.ty] (.string (fdP m.ty)) (fun w M => d_Fields m.ty w M.laid) fun u2 M => ?_
 by_cases c0 : (fdP m.ty) = (⟨#[]⟩ : ByteArray)
 ·skip
  refine pH 8 (.bool true) (fun w => Eq.trans (b := .ok (.value (.bool ((fdP m.ty).toList == (⟨#[]⟩ : ByteArray).toList))) w) (by kernel_rfl) (by rw [seq_pos c0])) ?_
  refine nT ?_
  refine wp_cond_true (by kernel_rfl) ?_
  refine sR ?_
  refine pV 2 (.int .i64 150) ?_
  refine nT ?_
  refine wp_ret ?_
  refine au_then_ret ?_
  have e0 : (dE m) = 150 := by simp only [dE, if_pos c0]
  exact bodyPost_ret (v := .int .i64 150) (results_tmp1 Try.results15 _ _ _ (by kernel_rfl)) (by kernel_rfl) ⟨by rw [e0], below_grown M.old⟩
 ·skip
  refine pH 8 (.bool false) (fun w => Eq.trans (b := .ok (.value (.bool ((fdP m.ty).toList == (⟨#[]⟩ : ByteArray).toList))) w) (by kernel_rfl) (by rw [seq_neg c0])) ?_
  refine nT ?_
  refine wp_cond_false (by kernel_rfl) ?_
  refine wp_skip ?_
  refine au_then ?_
  refine wp_seq ?_
  refine sR ?_
  refine pl_cut 6 (fun a w' => ∃ yv1 : Nat → Value, a = ⟨#[.agg (av 17 (ls [.int .u8 m.ty, .string m.fr, .string m.tq, .int .u32 m.ix, .int .u32 m.pe, .int .u64 m.ct, .int .u64 m.ba, .int .u64 m.ve, .string m.tx, .bool (m.ev), .int .u64 m.eh, .int .u64 m.el, .int .u16 m.ep, .int .u16 m.co, .string m.tt, .string m.da, .string m.sg])), .pointer (some ⟨g1, 0, none⟩), .int .i64 0, .int .u8 m.ty, .pointer (some ⟨g1, 0, none⟩), .int .u8 m.ty, .int .u8 m.ty, .string (fdP m.ty), .bool false, yv1 9, yv1 10, yv1 11, yv1 12, yv1 13, .bool (dA1 m), undef, undef, undef, undef, undef, undef, undef, undef, undef, undef, undef, undef, undef, undef, undef, undef, undef, undef, undef, undef, undef, undef, undef, undef, undef, undef, undef, undef, undef, undef, undef, undef, undef, undef, undef, undef, undef, undef, undef, undef, undef, undef, undef, undef, undef, undef, undef, undef, undef, undef, undef, undef, undef, undef, undef, undef, undef, undef, undef, undef, undef, undef, undef, undef, undef, undef, undef, undef, undef, undef, undef, undef, undef, undef, undef, undef, undef, undef, undef, undef, undef, undef, undef, undef, undef, undef, undef, undef, undef, undef, undef, undef, undef, undef, undef, undef, undef, undef, undef, undef, undef, undef, undef, undef, undef, undef, undef, undef, undef, undef, undef, undef, undef, undef, undef, undef, undef, undef, undef, undef, undef, undef, undef, undef], []⟩ ∧ Mem ⟨w, []⟩ [⟨g1, .cells (av 17 (ls [.int .u8 m.ty, .string m.fr, .string m.tq, .int .u32 m.ix, .int .u32 m.pe, .int .u64 m.ct, .int .u64 m.ba, .int .u64 m.ve, .string m.tx, .bool (m.ev), .int .u64 m.eh, .int .u64 m.el, .int .u16 m.ep, .int .u16 m.co, .string m.tt, .string m.da, .string m.sg])) 30⟩] w') ?_ ?_
  ·simp only [List.take_succ_cons, List.take_zero]
   refine pV 9 (.int .u8 m.ty) ?_
   refine pV 10 (.pointer (some ⟨g1, 1, none⟩)) ?_
   refine pEz M 11 g1 1 (.string m.fr) (fun w M => M.cell 0 rfl (by decide) rfl) ?_
   rcases Bool.eq_false_or_eq_true (txP m.ty 70 m.fr 32) with c1 | c1
   ·skip
    refine pC M 12 28 #[.int .u8 m.ty, .int .u8 70, .string m.fr, .int .i64 32] (.bool true) (fun w M => call_val (d_text m.ty 70 m.fr 32 w M.laid) (congrArg Value.bool c1)) fun u3 M => ?_
    refine pV 13 (.bool false) ?_
    refine pV 14 (.bool false) ?_
    refine nT ?_
    have e9 : dA1 m = false := by simp [dA1, c0, c1]
    exact ⟨fun k_ => ([.int .u8 m.ty, .pointer (some ⟨g1, 1, none⟩), .string m.fr, .bool true, .bool false] : List Value).getD (k_ - 9) undef, by rw [e9]; kernel_rfl, M⟩
   ·skip
    refine pC M 12 28 #[.int .u8 m.ty, .int .u8 70, .string m.fr, .int .i64 32] (.bool false) (fun w M => call_val (d_text m.ty 70 m.fr 32 w M.laid) (congrArg Value.bool c1)) fun u3 M => ?_
    refine pV 13 (.bool true) ?_
    refine pV 14 (.bool true) ?_
    refine nT ?_
    have e9 : dA1 m = true := by simp [dA1, c0, c1]
    exact ⟨fun k_ => ([.int .u8 m.ty, .pointer (some ⟨g1, 1, none⟩), .string m.fr, .bool false, .bool true] : List Value).getD (k_ - 9) undef, by rw [e9]; kernel_rfl, M⟩
  simp only [List.drop_succ_cons, List.drop_zero]
  intro a u3 hI
  obtain ⟨yv1, rfl, M⟩ := hI
  replace M : Mem ⟨w, []⟩ [⟨g1, .cells (av 17 (ls [.int .u8 m.ty, .string m.fr, .string m.tq, .int .u32 m.ix, .int .u32 m.pe, .int .u64 m.ct, .int .u64 m.ba, .int .u64 m.ve, .string m.tx, .bool (m.ev), .int .u64 m.eh, .int .u64 m.el, .int .u16 m.ep, .int .u16 m.co, .string m.tt, .string m.da, .string m.sg])) 30⟩] u3 := M
  refine pl_cut 7 (fun a w' => ∃ yv2 : Nat → Value, a = ⟨#[.agg (av 17 (ls [.int .u8 m.ty, .string m.fr, .string m.tq, .int .u32 m.ix, .int .u32 m.pe, .int .u64 m.ct, .int .u64 m.ba, .int .u64 m.ve, .string m.tx, .bool (m.ev), .int .u64 m.eh, .int .u64 m.el, .int .u16 m.ep, .int .u16 m.co, .string m.tt, .string m.da, .string m.sg])), .pointer (some ⟨g1, 0, none⟩), .int .i64 0, .int .u8 m.ty, .pointer (some ⟨g1, 0, none⟩), .int .u8 m.ty, .int .u8 m.ty, .string (fdP m.ty), .bool false, yv1 9, yv1 10, yv1 11, yv1 12, yv1 13, .bool (dA1 m), yv2 15, yv2 16, yv2 17, yv2 18, yv2 19, yv2 20, .bool (dA2 m), undef, undef, undef, undef, undef, undef, undef, undef, undef, undef, undef, undef, undef, undef, undef, undef, undef, undef, undef, undef, undef, undef, undef, undef, undef, undef, undef, undef, undef, undef, undef, undef, undef, undef, undef, undef, undef, undef, undef, undef, undef, undef, undef, undef, undef, undef, undef, undef, undef, undef, undef, undef, undef, undef, undef, undef, undef, undef, undef, undef, undef, undef, undef, undef, undef, undef, undef, undef, undef, undef, undef, undef, undef, undef, undef, undef, undef, undef, undef, undef, undef, undef, undef, undef, undef, undef, undef, undef, undef, undef, undef, undef, undef, undef, undef, undef, undef, undef, undef, undef, undef, undef, undef, undef, undef, undef, undef, undef, undef, undef, undef, undef, undef, undef, undef, undef, undef], []⟩ ∧ Mem ⟨w, []⟩ [⟨g1, .cells (av 17 (ls [.int .u8 m.ty, .string m.fr, .string m.tq, .int .u32 m.ix, .int .u32 m.pe, .int .u64 m.ct, .int .u64 m.ba, .int .u64 m.ve, .string m.tx, .bool (m.ev), .int .u64 m.eh, .int .u64 m.el, .int .u16 m.ep, .int .u16 m.co, .string m.tt, .string m.da, .string m.sg])) 30⟩] w') ?_ ?_
  ·simp only [List.take_succ_cons, List.take_zero]
   rcases Bool.eq_false_or_eq_true (dA1 m) with c1 | c1
   ·skip
    rw [c1]
    refine pl_skip (want_off 5 false rfl 14 rfl (by kernel_rfl)) (some 15) rfl ?_
    refine pl_skip (want_off 5 false rfl 14 rfl (by kernel_rfl)) (some 16) rfl ?_
    refine pl_skip (want_off 5 false rfl 14 rfl (by kernel_rfl)) (some 17) rfl ?_
    refine pl_skip (want_off 5 false rfl 14 rfl (by kernel_rfl)) (some 18) rfl ?_
    refine pl_skip (want_off 5 false rfl 14 rfl (by kernel_rfl)) (some 19) rfl ?_
    refine pV 20 (.bool true) ?_
    refine pV 21 (.bool true) ?_
    refine nT ?_
    have e9 : dA2 m = true := by simp [dA2, c0, c1]
    exact ⟨fun k_ => ([undef, undef, undef, undef, undef, .bool true] : List Value).getD (k_ - 15) undef, by rw [e9]; kernel_rfl, M⟩
   ·skip
    rw [c1]
    refine pl_val (want_on 5 false rfl 14 rfl (by kernel_rfl)) (some 15) rfl (.int .u8 m.ty) (fun _ => by kernel_rfl) ?_
    refine pl_val (want_on 5 false rfl 14 rfl (by kernel_rfl)) (some 16) rfl (.pointer (some ⟨g1, 2, none⟩)) (fun _ => by kernel_rfl) ?_
    refine pl_cell M (want_on 5 false rfl 14 rfl (by kernel_rfl)) (some 17) rfl 9 _ rfl g1 2 (by kernel_rfl) (.string m.tq) (fun _ => by kernel_rfl) (fun w M => M.cell 0 rfl (by decide) rfl) ?_
    rcases Bool.eq_false_or_eq_true (txP m.ty 84 m.tq 32) with c2 | c2
    ·skip
     refine pl_call M (want_on 5 false rfl 14 rfl (by kernel_rfl)) (some 18) rfl 28 #[.int .u8 m.ty, .int .u8 84, .string m.tq, .int .i64 32] (.bool true) (fun _ => by kernel_rfl) (fun w M => call_val (d_text m.ty 84 m.tq 32 w M.laid) (congrArg Value.bool c2)) fun u4 M => ?_
     refine pl_val (want_on 5 false rfl 14 rfl (by kernel_rfl)) (some 19) rfl (.bool false) (fun _ => by kernel_rfl) ?_
     refine pV 20 (.bool false) ?_
     refine pV 21 (.bool false) ?_
     refine nT ?_
     have e9 : dA2 m = false := by simp [dA2, c0, c1, c2]
     exact ⟨fun k_ => ([.int .u8 m.ty, .pointer (some ⟨g1, 2, none⟩), .string m.tq, .bool true, .bool false, .bool false] : List Value).getD (k_ - 15) undef, by rw [e9]; kernel_rfl, M⟩
    ·skip
     refine pl_call M (want_on 5 false rfl 14 rfl (by kernel_rfl)) (some 18) rfl 28 #[.int .u8 m.ty, .int .u8 84, .string m.tq, .int .i64 32] (.bool false) (fun _ => by kernel_rfl) (fun w M => call_val (d_text m.ty 84 m.tq 32 w M.laid) (congrArg Value.bool c2)) fun u4 M => ?_
     refine pl_val (want_on 5 false rfl 14 rfl (by kernel_rfl)) (some 19) rfl (.bool true) (fun _ => by kernel_rfl) ?_
     refine pV 20 (.bool true) ?_
     refine pV 21 (.bool true) ?_
     refine nT ?_
     have e9 : dA2 m = true := by simp [dA2, c0, c1, c2]
     exact ⟨fun k_ => ([.int .u8 m.ty, .pointer (some ⟨g1, 2, none⟩), .string m.tq, .bool false, .bool true, .bool true] : List Value).getD (k_ - 15) undef, by rw [e9]; kernel_rfl, M⟩
  simp only [List.drop_succ_cons, List.drop_zero]
  intro a u4 hI
  obtain ⟨yv2, rfl, M⟩ := hI
  replace M : Mem ⟨w, []⟩ [⟨g1, .cells (av 17 (ls [.int .u8 m.ty, .string m.fr, .string m.tq, .int .u32 m.ix, .int .u32 m.pe, .int .u64 m.ct, .int .u64 m.ba, .int .u64 m.ve, .string m.tx, .bool (m.ev), .int .u64 m.eh, .int .u64 m.el, .int .u16 m.ep, .int .u16 m.co, .string m.tt, .string m.da, .string m.sg])) 30⟩] u4 := M
  refine pl_cut 7 (fun a w' => ∃ yv3 : Nat → Value, a = ⟨#[.agg (av 17 (ls [.int .u8 m.ty, .string m.fr, .string m.tq, .int .u32 m.ix, .int .u32 m.pe, .int .u64 m.ct, .int .u64 m.ba, .int .u64 m.ve, .string m.tx, .bool (m.ev), .int .u64 m.eh, .int .u64 m.el, .int .u16 m.ep, .int .u16 m.co, .string m.tt, .string m.da, .string m.sg])), .pointer (some ⟨g1, 0, none⟩), .int .i64 0, .int .u8 m.ty, .pointer (some ⟨g1, 0, none⟩), .int .u8 m.ty, .int .u8 m.ty, .string (fdP m.ty), .bool false, yv1 9, yv1 10, yv1 11, yv1 12, yv1 13, .bool (dA1 m), yv2 15, yv2 16, yv2 17, yv2 18, yv2 19, yv2 20, .bool (dA2 m), yv3 22, yv3 23, yv3 24, yv3 25, yv3 26, yv3 27, .bool (dA3 m), undef, undef, undef, undef, undef, undef, undef, undef, undef, undef, undef, undef, undef, undef, undef, undef, undef, undef, undef, undef, undef, undef, undef, undef, undef, undef, undef, undef, undef, undef, undef, undef, undef, undef, undef, undef, undef, undef, undef, undef, undef, undef, undef, undef, undef, undef, undef, undef, undef, undef, undef, undef, undef, undef, undef, undef, undef, undef, undef, undef, undef, undef, undef, undef, undef, undef, undef, undef, undef, undef, undef, undef, undef, undef, undef, undef, undef, undef, undef, undef, undef, undef, undef, undef, undef, undef, undef, undef, undef, undef, undef, undef, undef, undef, undef, undef, undef, undef, undef, undef, undef, undef, undef, undef, undef, undef, undef, undef, undef, undef], []⟩ ∧ Mem ⟨w, []⟩ [⟨g1, .cells (av 17 (ls [.int .u8 m.ty, .string m.fr, .string m.tq, .int .u32 m.ix, .int .u32 m.pe, .int .u64 m.ct, .int .u64 m.ba, .int .u64 m.ve, .string m.tx, .bool (m.ev), .int .u64 m.eh, .int .u64 m.el, .int .u16 m.ep, .int .u16 m.co, .string m.tt, .string m.da, .string m.sg])) 30⟩] w') ?_ ?_
  ·simp only [List.take_succ_cons, List.take_zero]
   rcases Bool.eq_false_or_eq_true (dA2 m) with c1 | c1
   ·skip
    rw [c1]
    refine pl_skip (want_off 12 false rfl 21 rfl (by kernel_rfl)) (some 22) rfl ?_
    refine pl_skip (want_off 12 false rfl 21 rfl (by kernel_rfl)) (some 23) rfl ?_
    refine pl_skip (want_off 12 false rfl 21 rfl (by kernel_rfl)) (some 24) rfl ?_
    refine pl_skip (want_off 12 false rfl 21 rfl (by kernel_rfl)) (some 25) rfl ?_
    refine pl_skip (want_off 12 false rfl 21 rfl (by kernel_rfl)) (some 26) rfl ?_
    refine pV 27 (.bool true) ?_
    refine pV 28 (.bool true) ?_
    refine nT ?_
    have e9 : dA3 m = true := by simp [dA3, c0, c1]
    exact ⟨fun k_ => ([undef, undef, undef, undef, undef, .bool true] : List Value).getD (k_ - 22) undef, by rw [e9]; kernel_rfl, M⟩
   ·skip
    rw [c1]
    refine pl_val (want_on 12 false rfl 21 rfl (by kernel_rfl)) (some 22) rfl (.int .u8 m.ty) (fun _ => by kernel_rfl) ?_
    refine pl_val (want_on 12 false rfl 21 rfl (by kernel_rfl)) (some 23) rfl (.pointer (some ⟨g1, 8, none⟩)) (fun _ => by kernel_rfl) ?_
    refine pl_cell M (want_on 12 false rfl 21 rfl (by kernel_rfl)) (some 24) rfl 9 _ rfl g1 8 (by kernel_rfl) (.string m.tx) (fun _ => by kernel_rfl) (fun w M => M.cell 0 rfl (by decide) rfl) ?_
    rcases Bool.eq_false_or_eq_true (txP m.ty 88 m.tx 16) with c2 | c2
    ·skip
     refine pl_call M (want_on 12 false rfl 21 rfl (by kernel_rfl)) (some 25) rfl 28 #[.int .u8 m.ty, .int .u8 88, .string m.tx, .int .i64 16] (.bool true) (fun _ => by kernel_rfl) (fun w M => call_val (d_text m.ty 88 m.tx 16 w M.laid) (congrArg Value.bool c2)) fun u5 M => ?_
     refine pl_val (want_on 12 false rfl 21 rfl (by kernel_rfl)) (some 26) rfl (.bool false) (fun _ => by kernel_rfl) ?_
     refine pV 27 (.bool false) ?_
     refine pV 28 (.bool false) ?_
     refine nT ?_
     have e9 : dA3 m = false := by simp [dA3, c0, c1, c2]
     exact ⟨fun k_ => ([.int .u8 m.ty, .pointer (some ⟨g1, 8, none⟩), .string m.tx, .bool true, .bool false, .bool false] : List Value).getD (k_ - 22) undef, by rw [e9]; kernel_rfl, M⟩
    ·skip
     refine pl_call M (want_on 12 false rfl 21 rfl (by kernel_rfl)) (some 25) rfl 28 #[.int .u8 m.ty, .int .u8 88, .string m.tx, .int .i64 16] (.bool false) (fun _ => by kernel_rfl) (fun w M => call_val (d_text m.ty 88 m.tx 16 w M.laid) (congrArg Value.bool c2)) fun u5 M => ?_
     refine pl_val (want_on 12 false rfl 21 rfl (by kernel_rfl)) (some 26) rfl (.bool true) (fun _ => by kernel_rfl) ?_
     refine pV 27 (.bool true) ?_
     refine pV 28 (.bool true) ?_
     refine nT ?_
     have e9 : dA3 m = true := by simp [dA3, c0, c1, c2]
     exact ⟨fun k_ => ([.int .u8 m.ty, .pointer (some ⟨g1, 8, none⟩), .string m.tx, .bool false, .bool true, .bool true] : List Value).getD (k_ - 22) undef, by rw [e9]; kernel_rfl, M⟩
  simp only [List.drop_succ_cons, List.drop_zero]
  intro a u5 hI
  obtain ⟨yv3, rfl, M⟩ := hI
  replace M : Mem ⟨w, []⟩ [⟨g1, .cells (av 17 (ls [.int .u8 m.ty, .string m.fr, .string m.tq, .int .u32 m.ix, .int .u32 m.pe, .int .u64 m.ct, .int .u64 m.ba, .int .u64 m.ve, .string m.tx, .bool (m.ev), .int .u64 m.eh, .int .u64 m.el, .int .u16 m.ep, .int .u16 m.co, .string m.tt, .string m.da, .string m.sg])) 30⟩] u5 := M
  refine pl_cut 6 (fun a w' => ∃ yv4 : Nat → Value, a = ⟨#[.agg (av 17 (ls [.int .u8 m.ty, .string m.fr, .string m.tq, .int .u32 m.ix, .int .u32 m.pe, .int .u64 m.ct, .int .u64 m.ba, .int .u64 m.ve, .string m.tx, .bool (m.ev), .int .u64 m.eh, .int .u64 m.el, .int .u16 m.ep, .int .u16 m.co, .string m.tt, .string m.da, .string m.sg])), .pointer (some ⟨g1, 0, none⟩), .int .i64 0, .int .u8 m.ty, .pointer (some ⟨g1, 0, none⟩), .int .u8 m.ty, .int .u8 m.ty, .string (fdP m.ty), .bool false, yv1 9, yv1 10, yv1 11, yv1 12, yv1 13, .bool (dA1 m), yv2 15, yv2 16, yv2 17, yv2 18, yv2 19, yv2 20, .bool (dA2 m), yv3 22, yv3 23, yv3 24, yv3 25, yv3 26, yv3 27, .bool (dA3 m), yv4 29, yv4 30, yv4 31, yv4 32, yv4 33, .bool (dA4 m), undef, undef, undef, undef, undef, undef, undef, undef, undef, undef, undef, undef, undef, undef, undef, undef, undef, undef, undef, undef, undef, undef, undef, undef, undef, undef, undef, undef, undef, undef, undef, undef, undef, undef, undef, undef, undef, undef, undef, undef, undef, undef, undef, undef, undef, undef, undef, undef, undef, undef, undef, undef, undef, undef, undef, undef, undef, undef, undef, undef, undef, undef, undef, undef, undef, undef, undef, undef, undef, undef, undef, undef, undef, undef, undef, undef, undef, undef, undef, undef, undef, undef, undef, undef, undef, undef, undef, undef, undef, undef, undef, undef, undef, undef, undef, undef, undef, undef, undef, undef, undef, undef, undef, undef], []⟩ ∧ Mem ⟨w, []⟩ [⟨g1, .cells (av 17 (ls [.int .u8 m.ty, .string m.fr, .string m.tq, .int .u32 m.ix, .int .u32 m.pe, .int .u64 m.ct, .int .u64 m.ba, .int .u64 m.ve, .string m.tx, .bool (m.ev), .int .u64 m.eh, .int .u64 m.el, .int .u16 m.ep, .int .u16 m.co, .string m.tt, .string m.da, .string m.sg])) 30⟩] w') ?_ ?_
  ·simp only [List.take_succ_cons, List.take_zero]
   rcases Bool.eq_false_or_eq_true (dA3 m) with c1 | c1
   ·skip
    rw [c1]
    refine pl_skip (want_off 19 false rfl 28 rfl (by kernel_rfl)) (some 29) rfl ?_
    refine pl_skip (want_off 19 false rfl 28 rfl (by kernel_rfl)) (some 30) rfl ?_
    refine pl_skip (want_off 19 false rfl 28 rfl (by kernel_rfl)) (some 31) rfl ?_
    refine pl_skip (want_off 19 false rfl 28 rfl (by kernel_rfl)) (some 32) rfl ?_
    refine pl_skip (want_off 19 false rfl 28 rfl (by kernel_rfl)) (some 33) rfl ?_
    refine pV 34 (.bool true) ?_
    refine nT ?_
    have e9 : dA4 m = true := by simp [dA4, c0, c1]
    exact ⟨fun k_ => ([undef, undef, undef, undef, undef] : List Value).getD (k_ - 29) undef, by rw [e9]; kernel_rfl, M⟩
   ·skip
    rw [c1]
    refine pl_val (want_on 19 false rfl 28 rfl (by kernel_rfl)) (some 29) rfl (.int .u8 m.ty) (fun _ => by kernel_rfl) ?_
    refine pl_val (want_on 19 false rfl 28 rfl (by kernel_rfl)) (some 30) rfl (.pointer (some ⟨g1, 16, none⟩)) (fun _ => by kernel_rfl) ?_
    refine pl_cell M (want_on 19 false rfl 28 rfl (by kernel_rfl)) (some 31) rfl 9 _ rfl g1 16 (by kernel_rfl) (.string m.sg) (fun _ => by kernel_rfl) (fun w M => M.cell 0 rfl (by decide) rfl) ?_
    rcases Bool.eq_false_or_eq_true (txP m.ty 83 m.sg 64) with c2 | c2
    ·skip
     refine pl_call M (want_on 19 false rfl 28 rfl (by kernel_rfl)) (some 32) rfl 28 #[.int .u8 m.ty, .int .u8 83, .string m.sg, .int .i64 64] (.bool true) (fun _ => by kernel_rfl) (fun w M => call_val (d_text m.ty 83 m.sg 64 w M.laid) (congrArg Value.bool c2)) fun u6 M => ?_
     refine pl_val (want_on 19 false rfl 28 rfl (by kernel_rfl)) (some 33) rfl (.bool false) (fun _ => by kernel_rfl) ?_
     refine pV 34 (.bool false) ?_
     refine nT ?_
     have e9 : dA4 m = false := by simp [dA4, c0, c1, c2]
     exact ⟨fun k_ => ([.int .u8 m.ty, .pointer (some ⟨g1, 16, none⟩), .string m.sg, .bool true, .bool false] : List Value).getD (k_ - 29) undef, by rw [e9]; kernel_rfl, M⟩
    ·skip
     refine pl_call M (want_on 19 false rfl 28 rfl (by kernel_rfl)) (some 32) rfl 28 #[.int .u8 m.ty, .int .u8 83, .string m.sg, .int .i64 64] (.bool false) (fun _ => by kernel_rfl) (fun w M => call_val (d_text m.ty 83 m.sg 64 w M.laid) (congrArg Value.bool c2)) fun u6 M => ?_
     refine pl_val (want_on 19 false rfl 28 rfl (by kernel_rfl)) (some 33) rfl (.bool true) (fun _ => by kernel_rfl) ?_
     refine pV 34 (.bool true) ?_
     refine nT ?_
     have e9 : dA4 m = true := by simp [dA4, c0, c1, c2]
     exact ⟨fun k_ => ([.int .u8 m.ty, .pointer (some ⟨g1, 16, none⟩), .string m.sg, .bool false, .bool true] : List Value).getD (k_ - 29) undef, by rw [e9]; kernel_rfl, M⟩
  simp only [List.drop_succ_cons, List.drop_zero]
  intro a u6 hI
  obtain ⟨yv4, rfl, M⟩ := hI
  replace M : Mem ⟨w, []⟩ [⟨g1, .cells (av 17 (ls [.int .u8 m.ty, .string m.fr, .string m.tq, .int .u32 m.ix, .int .u32 m.pe, .int .u64 m.ct, .int .u64 m.ba, .int .u64 m.ve, .string m.tx, .bool (m.ev), .int .u64 m.eh, .int .u64 m.el, .int .u16 m.ep, .int .u16 m.co, .string m.tt, .string m.da, .string m.sg])) 30⟩] u6 := M
  refine nT ?_
  rcases Bool.eq_false_or_eq_true (dA4 m) with c1 | c1
  ·skip
   rw [c1]
   refine wp_cond_true (by kernel_rfl) ?_
   refine sR ?_
   refine pV 2 (.int .i64 151) ?_
   refine nT ?_
   refine wp_ret ?_
   refine au_then_ret ?_
   have e0 : (dE m) = 151 := by simp only [dE, if_neg c0, if_pos c1]
   exact bodyPost_ret (v := .int .i64 151) (results_tmp1 Try.results15 _ _ _ (by kernel_rfl)) (by kernel_rfl) ⟨by rw [e0], below_grown M.old⟩
  ·skip
   rw [c1]
   refine wp_cond_false (by kernel_rfl) ?_
   refine wp_skip ?_
   refine au_then ?_
   refine wp_seq ?_
   refine sR ?_
   refine pl_cut 9 (fun a w' => ∃ yv5 : Nat → Value, a = ⟨#[.agg (av 17 (ls [.int .u8 m.ty, .string m.fr, .string m.tq, .int .u32 m.ix, .int .u32 m.pe, .int .u64 m.ct, .int .u64 m.ba, .int .u64 m.ve, .string m.tx, .bool (m.ev), .int .u64 m.eh, .int .u64 m.el, .int .u16 m.ep, .int .u16 m.co, .string m.tt, .string m.da, .string m.sg])), .pointer (some ⟨g1, 0, none⟩), .int .i64 0, .int .u8 m.ty, .pointer (some ⟨g1, 0, none⟩), .int .u8 m.ty, .int .u8 m.ty, .string (fdP m.ty), .bool false, yv1 9, yv1 10, yv1 11, yv1 12, yv1 13, .bool (dA1 m), yv2 15, yv2 16, yv2 17, yv2 18, yv2 19, yv2 20, .bool (dA2 m), yv3 22, yv3 23, yv3 24, yv3 25, yv3 26, yv3 27, .bool (dA3 m), yv4 29, yv4 30, yv4 31, yv4 32, yv4 33, .bool false, yv5 35, yv5 36, yv5 37, yv5 38, yv5 39, yv5 40, yv5 41, yv5 42, .bool (dB_1 m), undef, undef, undef, undef, undef, undef, undef, undef, undef, undef, undef, undef, undef, undef, undef, undef, undef, undef, undef, undef, undef, undef, undef, undef, undef, undef, undef, undef, undef, undef, undef, undef, undef, undef, undef, undef, undef, undef, undef, undef, undef, undef, undef, undef, undef, undef, undef, undef, undef, undef, undef, undef, undef, undef, undef, undef, undef, undef, undef, undef, undef, undef, undef, undef, undef, undef, undef, undef, undef, undef, undef, undef, undef, undef, undef, undef, undef, undef, undef, undef, undef, undef, undef, undef, undef, undef, undef, undef, undef, undef, undef, undef, undef, undef, undef], []⟩ ∧ Mem ⟨w, []⟩ [⟨g1, .cells (av 17 (ls [.int .u8 m.ty, .string m.fr, .string m.tq, .int .u32 m.ix, .int .u32 m.pe, .int .u64 m.ct, .int .u64 m.ba, .int .u64 m.ve, .string m.tx, .bool (m.ev), .int .u64 m.eh, .int .u64 m.el, .int .u16 m.ep, .int .u16 m.co, .string m.tt, .string m.da, .string m.sg])) 30⟩] w') ?_ ?_
   ·simp only [List.take_succ_cons, List.take_zero]
    refine pV 35 (.int .u8 m.ty) ?_
    rcases Bool.eq_false_or_eq_true (hsP m.ty 73) with c2 | c2
    ·skip
     refine pC M 36 29 #[.int .u8 m.ty, .int .u8 73] (.bool true) (fun w M => call_val (d_has m.ty 73 w M.laid) (congrArg Value.bool c2)) fun u7 M => ?_
     refine pV 37 (.bool false) ?_
     refine pV 38 (.bool false) ?_
     refine pl_skip (want_off 3 true rfl 38 rfl (by kernel_rfl)) (some 39) rfl ?_
     refine pl_skip (want_off 3 true rfl 38 rfl (by kernel_rfl)) (some 40) rfl ?_
     refine pl_skip (want_off 3 true rfl 38 rfl (by kernel_rfl)) (some 41) rfl ?_
     refine pV 42 (.bool false) ?_
     refine pV 43 (.bool false) ?_
     refine nT ?_
     have e9 : dB_1 m = false := by simp [dB_1, c0, c1, c2]
     exact ⟨fun k_ => ([.int .u8 m.ty, .bool true, .bool false, .bool false, undef, undef, undef, .bool false] : List Value).getD (k_ - 35) undef, by rw [e9]; kernel_rfl, M⟩
    ·skip
     refine pC M 36 29 #[.int .u8 m.ty, .int .u8 73] (.bool false) (fun w M => call_val (d_has m.ty 73 w M.laid) (congrArg Value.bool c2)) fun u7 M => ?_
     refine pV 37 (.bool true) ?_
     refine pV 38 (.bool true) ?_
     refine pl_val (want_on 3 true rfl 38 rfl (by kernel_rfl)) (some 39) rfl (.pointer (some ⟨g1, 3, none⟩)) (fun _ => by kernel_rfl) ?_
     refine pl_cell M (want_on 3 true rfl 38 rfl (by kernel_rfl)) (some 40) rfl 22 _ rfl g1 3 (by kernel_rfl) (.int .u32 m.ix) (fun _ => by kernel_rfl) (fun w M => M.cell 0 rfl (by decide) rfl) ?_
     by_cases c3 : m.ix = 0
     ·skip
      refine pl_val (want_on 3 true rfl 38 rfl (by kernel_rfl)) (some 41) rfl (.bool false) (fun w => Eq.trans (b := .ok (.value (.bool (!(decide (m.ix = 0))))) w) (by kernel_rfl) (by rw [decide_eq_true (c3)]; rfl)) ?_
      refine pV 42 (.bool false) ?_
      refine pV 43 (.bool false) ?_
      refine nT ?_
      have e9 : dB_1 m = false := by simp [dB_1, c0, c1, c2, c3]
      exact ⟨fun k_ => ([.int .u8 m.ty, .bool false, .bool true, .bool true, .pointer (some ⟨g1, 3, none⟩), .int .u32 m.ix, .bool false, .bool false] : List Value).getD (k_ - 35) undef, by rw [e9]; kernel_rfl, M⟩
     ·skip
      refine pl_val (want_on 3 true rfl 38 rfl (by kernel_rfl)) (some 41) rfl (.bool true) (fun w => Eq.trans (b := .ok (.value (.bool (!(decide (m.ix = 0))))) w) (by kernel_rfl) (by rw [decide_eq_false (c3)]; rfl)) ?_
      refine pV 42 (.bool true) ?_
      refine pV 43 (.bool true) ?_
      refine nT ?_
      have e9 : dB_1 m = true := by simp [dB_1, c0, c1, c2, c3]
      exact ⟨fun k_ => ([.int .u8 m.ty, .bool false, .bool true, .bool true, .pointer (some ⟨g1, 3, none⟩), .int .u32 m.ix, .bool true, .bool true] : List Value).getD (k_ - 35) undef, by rw [e9]; kernel_rfl, M⟩
   simp only [List.drop_succ_cons, List.drop_zero]
   intro a u7 hI
   obtain ⟨yv5, rfl, M⟩ := hI
   replace M : Mem ⟨w, []⟩ [⟨g1, .cells (av 17 (ls [.int .u8 m.ty, .string m.fr, .string m.tq, .int .u32 m.ix, .int .u32 m.pe, .int .u64 m.ct, .int .u64 m.ba, .int .u64 m.ve, .string m.tx, .bool (m.ev), .int .u64 m.eh, .int .u64 m.el, .int .u16 m.ep, .int .u16 m.co, .string m.tt, .string m.da, .string m.sg])) 30⟩] u7 := M
   refine pl_cut 10 (fun a w' => ∃ yv6 : Nat → Value, a = ⟨#[.agg (av 17 (ls [.int .u8 m.ty, .string m.fr, .string m.tq, .int .u32 m.ix, .int .u32 m.pe, .int .u64 m.ct, .int .u64 m.ba, .int .u64 m.ve, .string m.tx, .bool (m.ev), .int .u64 m.eh, .int .u64 m.el, .int .u16 m.ep, .int .u16 m.co, .string m.tt, .string m.da, .string m.sg])), .pointer (some ⟨g1, 0, none⟩), .int .i64 0, .int .u8 m.ty, .pointer (some ⟨g1, 0, none⟩), .int .u8 m.ty, .int .u8 m.ty, .string (fdP m.ty), .bool false, yv1 9, yv1 10, yv1 11, yv1 12, yv1 13, .bool (dA1 m), yv2 15, yv2 16, yv2 17, yv2 18, yv2 19, yv2 20, .bool (dA2 m), yv3 22, yv3 23, yv3 24, yv3 25, yv3 26, yv3 27, .bool (dA3 m), yv4 29, yv4 30, yv4 31, yv4 32, yv4 33, .bool false, yv5 35, yv5 36, yv5 37, yv5 38, yv5 39, yv5 40, yv5 41, yv5 42, .bool (dB_1 m), yv6 44, yv6 45, yv6 46, yv6 47, yv6 48, yv6 49, yv6 50, yv6 51, yv6 52, .bool (dB_2 m), undef, undef, undef, undef, undef, undef, undef, undef, undef, undef, undef, undef, undef, undef, undef, undef, undef, undef, undef, undef, undef, undef, undef, undef, undef, undef, undef, undef, undef, undef, undef, undef, undef, undef, undef, undef, undef, undef, undef, undef, undef, undef, undef, undef, undef, undef, undef, undef, undef, undef, undef, undef, undef, undef, undef, undef, undef, undef, undef, undef, undef, undef, undef, undef, undef, undef, undef, undef, undef, undef, undef, undef, undef, undef, undef, undef, undef, undef, undef, undef, undef, undef, undef, undef, undef], []⟩ ∧ Mem ⟨w, []⟩ [⟨g1, .cells (av 17 (ls [.int .u8 m.ty, .string m.fr, .string m.tq, .int .u32 m.ix, .int .u32 m.pe, .int .u64 m.ct, .int .u64 m.ba, .int .u64 m.ve, .string m.tx, .bool (m.ev), .int .u64 m.eh, .int .u64 m.el, .int .u16 m.ep, .int .u16 m.co, .string m.tt, .string m.da, .string m.sg])) 30⟩] w') ?_ ?_
   ·simp only [List.take_succ_cons, List.take_zero]
    rcases Bool.eq_false_or_eq_true (dB_1 m) with c2 | c2
    ·skip
     rw [c2]
     refine pl_skip (want_off 8 false rfl 43 rfl (by kernel_rfl)) (some 44) rfl ?_
     refine pl_skip (want_off 8 false rfl 43 rfl (by kernel_rfl)) (some 45) rfl ?_
     refine pl_skip (want_off 8 false rfl 43 rfl (by kernel_rfl)) (some 46) rfl ?_
     refine pl_skip (want_off 8 false rfl 43 rfl (by kernel_rfl)) (some 47) rfl ?_
     refine pl_skip (want_und 12 true rfl 47 rfl (by kernel_rfl)) (some 48) rfl ?_
     refine pl_skip (want_und 12 true rfl 47 rfl (by kernel_rfl)) (some 49) rfl ?_
     refine pl_skip (want_und 12 true rfl 47 rfl (by kernel_rfl)) (some 50) rfl ?_
     refine pl_skip (want_off 8 false rfl 43 rfl (by kernel_rfl)) (some 51) rfl ?_
     refine pV 52 (.bool true) ?_
     refine pV 53 (.bool true) ?_
     refine nT ?_
     have e9 : dB_2 m = true := by simp [dB_2, c0, c1, c2]
     exact ⟨fun k_ => ([undef, undef, undef, undef, undef, undef, undef, undef, .bool true] : List Value).getD (k_ - 44) undef, by rw [e9]; kernel_rfl, M⟩
    ·skip
     rw [c2]
     refine pl_val (want_on 8 false rfl 43 rfl (by kernel_rfl)) (some 44) rfl (.int .u8 m.ty) (fun _ => by kernel_rfl) ?_
     rcases Bool.eq_false_or_eq_true (hsP m.ty 80) with c3 | c3
     ·skip
      refine pl_call M (want_on 8 false rfl 43 rfl (by kernel_rfl)) (some 45) rfl 29 #[.int .u8 m.ty, .int .u8 80] (.bool true) (fun _ => by kernel_rfl) (fun w M => call_val (d_has m.ty 80 w M.laid) (congrArg Value.bool c3)) fun u8 M => ?_
      refine pl_val (want_on 8 false rfl 43 rfl (by kernel_rfl)) (some 46) rfl (.bool false) (fun _ => by kernel_rfl) ?_
      refine pl_val (want_on 8 false rfl 43 rfl (by kernel_rfl)) (some 47) rfl (.bool false) (fun _ => by kernel_rfl) ?_
      refine pl_skip (want_off 12 true rfl 47 rfl (by kernel_rfl)) (some 48) rfl ?_
      refine pl_skip (want_off 12 true rfl 47 rfl (by kernel_rfl)) (some 49) rfl ?_
      refine pl_skip (want_off 12 true rfl 47 rfl (by kernel_rfl)) (some 50) rfl ?_
      refine pl_val (want_on 8 false rfl 43 rfl (by kernel_rfl)) (some 51) rfl (.bool false) (fun _ => by kernel_rfl) ?_
      refine pV 52 (.bool false) ?_
      refine pV 53 (.bool false) ?_
      refine nT ?_
      have e9 : dB_2 m = false := by simp [dB_2, c0, c1, c2, c3]
      exact ⟨fun k_ => ([.int .u8 m.ty, .bool true, .bool false, .bool false, undef, undef, undef, .bool false, .bool false] : List Value).getD (k_ - 44) undef, by rw [e9]; kernel_rfl, M⟩
     ·skip
      refine pl_call M (want_on 8 false rfl 43 rfl (by kernel_rfl)) (some 45) rfl 29 #[.int .u8 m.ty, .int .u8 80] (.bool false) (fun _ => by kernel_rfl) (fun w M => call_val (d_has m.ty 80 w M.laid) (congrArg Value.bool c3)) fun u8 M => ?_
      refine pl_val (want_on 8 false rfl 43 rfl (by kernel_rfl)) (some 46) rfl (.bool true) (fun _ => by kernel_rfl) ?_
      refine pl_val (want_on 8 false rfl 43 rfl (by kernel_rfl)) (some 47) rfl (.bool true) (fun _ => by kernel_rfl) ?_
      refine pl_val (want_on 12 true rfl 47 rfl (by kernel_rfl)) (some 48) rfl (.pointer (some ⟨g1, 4, none⟩)) (fun _ => by kernel_rfl) ?_
      refine pl_cell M (want_on 12 true rfl 47 rfl (by kernel_rfl)) (some 49) rfl 22 _ rfl g1 4 (by kernel_rfl) (.int .u32 m.pe) (fun _ => by kernel_rfl) (fun w M => M.cell 0 rfl (by decide) rfl) ?_
      by_cases c4 : m.pe = 0
      ·skip
       refine pl_val (want_on 12 true rfl 47 rfl (by kernel_rfl)) (some 50) rfl (.bool false) (fun w => Eq.trans (b := .ok (.value (.bool (!(decide (m.pe = 0))))) w) (by kernel_rfl) (by rw [decide_eq_true (c4)]; rfl)) ?_
       refine pl_val (want_on 8 false rfl 43 rfl (by kernel_rfl)) (some 51) rfl (.bool false) (fun _ => by kernel_rfl) ?_
       refine pV 52 (.bool false) ?_
       refine pV 53 (.bool false) ?_
       refine nT ?_
       have e9 : dB_2 m = false := by simp [dB_2, c0, c1, c2, c3, c4]
       exact ⟨fun k_ => ([.int .u8 m.ty, .bool false, .bool true, .bool true, .pointer (some ⟨g1, 4, none⟩), .int .u32 m.pe, .bool false, .bool false, .bool false] : List Value).getD (k_ - 44) undef, by rw [e9]; kernel_rfl, M⟩
      ·skip
       refine pl_val (want_on 12 true rfl 47 rfl (by kernel_rfl)) (some 50) rfl (.bool true) (fun w => Eq.trans (b := .ok (.value (.bool (!(decide (m.pe = 0))))) w) (by kernel_rfl) (by rw [decide_eq_false (c4)]; rfl)) ?_
       refine pl_val (want_on 8 false rfl 43 rfl (by kernel_rfl)) (some 51) rfl (.bool true) (fun _ => by kernel_rfl) ?_
       refine pV 52 (.bool true) ?_
       refine pV 53 (.bool true) ?_
       refine nT ?_
       have e9 : dB_2 m = true := by simp [dB_2, c0, c1, c2, c3, c4]
       exact ⟨fun k_ => ([.int .u8 m.ty, .bool false, .bool true, .bool true, .pointer (some ⟨g1, 4, none⟩), .int .u32 m.pe, .bool true, .bool true, .bool true] : List Value).getD (k_ - 44) undef, by rw [e9]; kernel_rfl, M⟩
   simp only [List.drop_succ_cons, List.drop_zero]
   intro a u8 hI
   obtain ⟨yv6, rfl, M⟩ := hI
   replace M : Mem ⟨w, []⟩ [⟨g1, .cells (av 17 (ls [.int .u8 m.ty, .string m.fr, .string m.tq, .int .u32 m.ix, .int .u32 m.pe, .int .u64 m.ct, .int .u64 m.ba, .int .u64 m.ve, .string m.tx, .bool (m.ev), .int .u64 m.eh, .int .u64 m.el, .int .u16 m.ep, .int .u16 m.co, .string m.tt, .string m.da, .string m.sg])) 30⟩] u8 := M
   refine pl_cut 10 (fun a w' => ∃ yv7 : Nat → Value, a = ⟨#[.agg (av 17 (ls [.int .u8 m.ty, .string m.fr, .string m.tq, .int .u32 m.ix, .int .u32 m.pe, .int .u64 m.ct, .int .u64 m.ba, .int .u64 m.ve, .string m.tx, .bool (m.ev), .int .u64 m.eh, .int .u64 m.el, .int .u16 m.ep, .int .u16 m.co, .string m.tt, .string m.da, .string m.sg])), .pointer (some ⟨g1, 0, none⟩), .int .i64 0, .int .u8 m.ty, .pointer (some ⟨g1, 0, none⟩), .int .u8 m.ty, .int .u8 m.ty, .string (fdP m.ty), .bool false, yv1 9, yv1 10, yv1 11, yv1 12, yv1 13, .bool (dA1 m), yv2 15, yv2 16, yv2 17, yv2 18, yv2 19, yv2 20, .bool (dA2 m), yv3 22, yv3 23, yv3 24, yv3 25, yv3 26, yv3 27, .bool (dA3 m), yv4 29, yv4 30, yv4 31, yv4 32, yv4 33, .bool false, yv5 35, yv5 36, yv5 37, yv5 38, yv5 39, yv5 40, yv5 41, yv5 42, .bool (dB_1 m), yv6 44, yv6 45, yv6 46, yv6 47, yv6 48, yv6 49, yv6 50, yv6 51, yv6 52, .bool (dB_2 m), yv7 54, yv7 55, yv7 56, yv7 57, yv7 58, yv7 59, yv7 60, yv7 61, yv7 62, .bool (dB_3 m), undef, undef, undef, undef, undef, undef, undef, undef, undef, undef, undef, undef, undef, undef, undef, undef, undef, undef, undef, undef, undef, undef, undef, undef, undef, undef, undef, undef, undef, undef, undef, undef, undef, undef, undef, undef, undef, undef, undef, undef, undef, undef, undef, undef, undef, undef, undef, undef, undef, undef, undef, undef, undef, undef, undef, undef, undef, undef, undef, undef, undef, undef, undef, undef, undef, undef, undef, undef, undef, undef, undef, undef, undef, undef, undef], []⟩ ∧ Mem ⟨w, []⟩ [⟨g1, .cells (av 17 (ls [.int .u8 m.ty, .string m.fr, .string m.tq, .int .u32 m.ix, .int .u32 m.pe, .int .u64 m.ct, .int .u64 m.ba, .int .u64 m.ve, .string m.tx, .bool (m.ev), .int .u64 m.eh, .int .u64 m.el, .int .u16 m.ep, .int .u16 m.co, .string m.tt, .string m.da, .string m.sg])) 30⟩] w') ?_ ?_
   ·simp only [List.take_succ_cons, List.take_zero]
    rcases Bool.eq_false_or_eq_true (dB_2 m) with c2 | c2
    ·skip
     rw [c2]
     refine pl_skip (want_off 18 false rfl 53 rfl (by kernel_rfl)) (some 54) rfl ?_
     refine pl_skip (want_off 18 false rfl 53 rfl (by kernel_rfl)) (some 55) rfl ?_
     refine pl_skip (want_off 18 false rfl 53 rfl (by kernel_rfl)) (some 56) rfl ?_
     refine pl_skip (want_off 18 false rfl 53 rfl (by kernel_rfl)) (some 57) rfl ?_
     refine pl_skip (want_und 22 true rfl 57 rfl (by kernel_rfl)) (some 58) rfl ?_
     refine pl_skip (want_und 22 true rfl 57 rfl (by kernel_rfl)) (some 59) rfl ?_
     refine pl_skip (want_und 22 true rfl 57 rfl (by kernel_rfl)) (some 60) rfl ?_
     refine pl_skip (want_off 18 false rfl 53 rfl (by kernel_rfl)) (some 61) rfl ?_
     refine pV 62 (.bool true) ?_
     refine pV 63 (.bool true) ?_
     refine nT ?_
     have e9 : dB_3 m = true := by simp [dB_3, c0, c1, c2]
     exact ⟨fun k_ => ([undef, undef, undef, undef, undef, undef, undef, undef, .bool true] : List Value).getD (k_ - 54) undef, by rw [e9]; kernel_rfl, M⟩
    ·skip
     rw [c2]
     refine pl_val (want_on 18 false rfl 53 rfl (by kernel_rfl)) (some 54) rfl (.int .u8 m.ty) (fun _ => by kernel_rfl) ?_
     rcases Bool.eq_false_or_eq_true (hsP m.ty 67) with c3 | c3
     ·skip
      refine pl_call M (want_on 18 false rfl 53 rfl (by kernel_rfl)) (some 55) rfl 29 #[.int .u8 m.ty, .int .u8 67] (.bool true) (fun _ => by kernel_rfl) (fun w M => call_val (d_has m.ty 67 w M.laid) (congrArg Value.bool c3)) fun u9 M => ?_
      refine pl_val (want_on 18 false rfl 53 rfl (by kernel_rfl)) (some 56) rfl (.bool false) (fun _ => by kernel_rfl) ?_
      refine pl_val (want_on 18 false rfl 53 rfl (by kernel_rfl)) (some 57) rfl (.bool false) (fun _ => by kernel_rfl) ?_
      refine pl_skip (want_off 22 true rfl 57 rfl (by kernel_rfl)) (some 58) rfl ?_
      refine pl_skip (want_off 22 true rfl 57 rfl (by kernel_rfl)) (some 59) rfl ?_
      refine pl_skip (want_off 22 true rfl 57 rfl (by kernel_rfl)) (some 60) rfl ?_
      refine pl_val (want_on 18 false rfl 53 rfl (by kernel_rfl)) (some 61) rfl (.bool false) (fun _ => by kernel_rfl) ?_
      refine pV 62 (.bool false) ?_
      refine pV 63 (.bool false) ?_
      refine nT ?_
      have e9 : dB_3 m = false := by simp [dB_3, c0, c1, c2, c3]
      exact ⟨fun k_ => ([.int .u8 m.ty, .bool true, .bool false, .bool false, undef, undef, undef, .bool false, .bool false] : List Value).getD (k_ - 54) undef, by rw [e9]; kernel_rfl, M⟩
     ·skip
      refine pl_call M (want_on 18 false rfl 53 rfl (by kernel_rfl)) (some 55) rfl 29 #[.int .u8 m.ty, .int .u8 67] (.bool false) (fun _ => by kernel_rfl) (fun w M => call_val (d_has m.ty 67 w M.laid) (congrArg Value.bool c3)) fun u9 M => ?_
      refine pl_val (want_on 18 false rfl 53 rfl (by kernel_rfl)) (some 56) rfl (.bool true) (fun _ => by kernel_rfl) ?_
      refine pl_val (want_on 18 false rfl 53 rfl (by kernel_rfl)) (some 57) rfl (.bool true) (fun _ => by kernel_rfl) ?_
      refine pl_val (want_on 22 true rfl 57 rfl (by kernel_rfl)) (some 58) rfl (.pointer (some ⟨g1, 5, none⟩)) (fun _ => by kernel_rfl) ?_
      refine pl_cell M (want_on 22 true rfl 57 rfl (by kernel_rfl)) (some 59) rfl 23 _ rfl g1 5 (by kernel_rfl) (.int .u64 m.ct) (fun _ => by kernel_rfl) (fun w M => M.cell 0 rfl (by decide) rfl) ?_
      by_cases c4 : m.ct = 0
      ·skip
       refine pl_val (want_on 22 true rfl 57 rfl (by kernel_rfl)) (some 60) rfl (.bool false) (fun w => Eq.trans (b := .ok (.value (.bool (!(decide (m.ct = 0))))) w) (by kernel_rfl) (by rw [decide_eq_true (c4)]; rfl)) ?_
       refine pl_val (want_on 18 false rfl 53 rfl (by kernel_rfl)) (some 61) rfl (.bool false) (fun _ => by kernel_rfl) ?_
       refine pV 62 (.bool false) ?_
       refine pV 63 (.bool false) ?_
       refine nT ?_
       have e9 : dB_3 m = false := by simp [dB_3, c0, c1, c2, c3, c4]
       exact ⟨fun k_ => ([.int .u8 m.ty, .bool false, .bool true, .bool true, .pointer (some ⟨g1, 5, none⟩), .int .u64 m.ct, .bool false, .bool false, .bool false] : List Value).getD (k_ - 54) undef, by rw [e9]; kernel_rfl, M⟩
      ·skip
       refine pl_val (want_on 22 true rfl 57 rfl (by kernel_rfl)) (some 60) rfl (.bool true) (fun w => Eq.trans (b := .ok (.value (.bool (!(decide (m.ct = 0))))) w) (by kernel_rfl) (by rw [decide_eq_false (c4)]; rfl)) ?_
       refine pl_val (want_on 18 false rfl 53 rfl (by kernel_rfl)) (some 61) rfl (.bool true) (fun _ => by kernel_rfl) ?_
       refine pV 62 (.bool true) ?_
       refine pV 63 (.bool true) ?_
       refine nT ?_
       have e9 : dB_3 m = true := by simp [dB_3, c0, c1, c2, c3, c4]
       exact ⟨fun k_ => ([.int .u8 m.ty, .bool false, .bool true, .bool true, .pointer (some ⟨g1, 5, none⟩), .int .u64 m.ct, .bool true, .bool true, .bool true] : List Value).getD (k_ - 54) undef, by rw [e9]; kernel_rfl, M⟩
   simp only [List.drop_succ_cons, List.drop_zero]
   intro a u9 hI
   obtain ⟨yv7, rfl, M⟩ := hI
   replace M : Mem ⟨w, []⟩ [⟨g1, .cells (av 17 (ls [.int .u8 m.ty, .string m.fr, .string m.tq, .int .u32 m.ix, .int .u32 m.pe, .int .u64 m.ct, .int .u64 m.ba, .int .u64 m.ve, .string m.tx, .bool (m.ev), .int .u64 m.eh, .int .u64 m.el, .int .u16 m.ep, .int .u16 m.co, .string m.tt, .string m.da, .string m.sg])) 30⟩] u9 := M
   refine pl_cut 10 (fun a w' => ∃ yv8 : Nat → Value, a = ⟨#[.agg (av 17 (ls [.int .u8 m.ty, .string m.fr, .string m.tq, .int .u32 m.ix, .int .u32 m.pe, .int .u64 m.ct, .int .u64 m.ba, .int .u64 m.ve, .string m.tx, .bool (m.ev), .int .u64 m.eh, .int .u64 m.el, .int .u16 m.ep, .int .u16 m.co, .string m.tt, .string m.da, .string m.sg])), .pointer (some ⟨g1, 0, none⟩), .int .i64 0, .int .u8 m.ty, .pointer (some ⟨g1, 0, none⟩), .int .u8 m.ty, .int .u8 m.ty, .string (fdP m.ty), .bool false, yv1 9, yv1 10, yv1 11, yv1 12, yv1 13, .bool (dA1 m), yv2 15, yv2 16, yv2 17, yv2 18, yv2 19, yv2 20, .bool (dA2 m), yv3 22, yv3 23, yv3 24, yv3 25, yv3 26, yv3 27, .bool (dA3 m), yv4 29, yv4 30, yv4 31, yv4 32, yv4 33, .bool false, yv5 35, yv5 36, yv5 37, yv5 38, yv5 39, yv5 40, yv5 41, yv5 42, .bool (dB_1 m), yv6 44, yv6 45, yv6 46, yv6 47, yv6 48, yv6 49, yv6 50, yv6 51, yv6 52, .bool (dB_2 m), yv7 54, yv7 55, yv7 56, yv7 57, yv7 58, yv7 59, yv7 60, yv7 61, yv7 62, .bool (dB_3 m), yv8 64, yv8 65, yv8 66, yv8 67, yv8 68, yv8 69, yv8 70, yv8 71, yv8 72, .bool (dB_4 m), undef, undef, undef, undef, undef, undef, undef, undef, undef, undef, undef, undef, undef, undef, undef, undef, undef, undef, undef, undef, undef, undef, undef, undef, undef, undef, undef, undef, undef, undef, undef, undef, undef, undef, undef, undef, undef, undef, undef, undef, undef, undef, undef, undef, undef, undef, undef, undef, undef, undef, undef, undef, undef, undef, undef, undef, undef, undef, undef, undef, undef, undef, undef, undef, undef], []⟩ ∧ Mem ⟨w, []⟩ [⟨g1, .cells (av 17 (ls [.int .u8 m.ty, .string m.fr, .string m.tq, .int .u32 m.ix, .int .u32 m.pe, .int .u64 m.ct, .int .u64 m.ba, .int .u64 m.ve, .string m.tx, .bool (m.ev), .int .u64 m.eh, .int .u64 m.el, .int .u16 m.ep, .int .u16 m.co, .string m.tt, .string m.da, .string m.sg])) 30⟩] w') ?_ ?_
   ·simp only [List.take_succ_cons, List.take_zero]
    rcases Bool.eq_false_or_eq_true (dB_3 m) with c2 | c2
    ·skip
     rw [c2]
     refine pl_skip (want_off 28 false rfl 63 rfl (by kernel_rfl)) (some 64) rfl ?_
     refine pl_skip (want_off 28 false rfl 63 rfl (by kernel_rfl)) (some 65) rfl ?_
     refine pl_skip (want_off 28 false rfl 63 rfl (by kernel_rfl)) (some 66) rfl ?_
     refine pl_skip (want_off 28 false rfl 63 rfl (by kernel_rfl)) (some 67) rfl ?_
     refine pl_skip (want_und 32 true rfl 67 rfl (by kernel_rfl)) (some 68) rfl ?_
     refine pl_skip (want_und 32 true rfl 67 rfl (by kernel_rfl)) (some 69) rfl ?_
     refine pl_skip (want_und 32 true rfl 67 rfl (by kernel_rfl)) (some 70) rfl ?_
     refine pl_skip (want_off 28 false rfl 63 rfl (by kernel_rfl)) (some 71) rfl ?_
     refine pV 72 (.bool true) ?_
     refine pV 73 (.bool true) ?_
     refine nT ?_
     have e9 : dB_4 m = true := by simp [dB_4, c0, c1, c2]
     exact ⟨fun k_ => ([undef, undef, undef, undef, undef, undef, undef, undef, .bool true] : List Value).getD (k_ - 64) undef, by rw [e9]; kernel_rfl, M⟩
    ·skip
     rw [c2]
     refine pl_val (want_on 28 false rfl 63 rfl (by kernel_rfl)) (some 64) rfl (.int .u8 m.ty) (fun _ => by kernel_rfl) ?_
     rcases Bool.eq_false_or_eq_true (hsP m.ty 66) with c3 | c3
     ·skip
      refine pl_call M (want_on 28 false rfl 63 rfl (by kernel_rfl)) (some 65) rfl 29 #[.int .u8 m.ty, .int .u8 66] (.bool true) (fun _ => by kernel_rfl) (fun w M => call_val (d_has m.ty 66 w M.laid) (congrArg Value.bool c3)) fun u10 M => ?_
      refine pl_val (want_on 28 false rfl 63 rfl (by kernel_rfl)) (some 66) rfl (.bool false) (fun _ => by kernel_rfl) ?_
      refine pl_val (want_on 28 false rfl 63 rfl (by kernel_rfl)) (some 67) rfl (.bool false) (fun _ => by kernel_rfl) ?_
      refine pl_skip (want_off 32 true rfl 67 rfl (by kernel_rfl)) (some 68) rfl ?_
      refine pl_skip (want_off 32 true rfl 67 rfl (by kernel_rfl)) (some 69) rfl ?_
      refine pl_skip (want_off 32 true rfl 67 rfl (by kernel_rfl)) (some 70) rfl ?_
      refine pl_val (want_on 28 false rfl 63 rfl (by kernel_rfl)) (some 71) rfl (.bool false) (fun _ => by kernel_rfl) ?_
      refine pV 72 (.bool false) ?_
      refine pV 73 (.bool false) ?_
      refine nT ?_
      have e9 : dB_4 m = false := by simp [dB_4, c0, c1, c2, c3]
      exact ⟨fun k_ => ([.int .u8 m.ty, .bool true, .bool false, .bool false, undef, undef, undef, .bool false, .bool false] : List Value).getD (k_ - 64) undef, by rw [e9]; kernel_rfl, M⟩
     ·skip
      refine pl_call M (want_on 28 false rfl 63 rfl (by kernel_rfl)) (some 65) rfl 29 #[.int .u8 m.ty, .int .u8 66] (.bool false) (fun _ => by kernel_rfl) (fun w M => call_val (d_has m.ty 66 w M.laid) (congrArg Value.bool c3)) fun u10 M => ?_
      refine pl_val (want_on 28 false rfl 63 rfl (by kernel_rfl)) (some 66) rfl (.bool true) (fun _ => by kernel_rfl) ?_
      refine pl_val (want_on 28 false rfl 63 rfl (by kernel_rfl)) (some 67) rfl (.bool true) (fun _ => by kernel_rfl) ?_
      refine pl_val (want_on 32 true rfl 67 rfl (by kernel_rfl)) (some 68) rfl (.pointer (some ⟨g1, 6, none⟩)) (fun _ => by kernel_rfl) ?_
      refine pl_cell M (want_on 32 true rfl 67 rfl (by kernel_rfl)) (some 69) rfl 23 _ rfl g1 6 (by kernel_rfl) (.int .u64 m.ba) (fun _ => by kernel_rfl) (fun w M => M.cell 0 rfl (by decide) rfl) ?_
      by_cases c4 : m.ba = 0
      ·skip
       refine pl_val (want_on 32 true rfl 67 rfl (by kernel_rfl)) (some 70) rfl (.bool false) (fun w => Eq.trans (b := .ok (.value (.bool (!(decide (m.ba = 0))))) w) (by kernel_rfl) (by rw [decide_eq_true (c4)]; rfl)) ?_
       refine pl_val (want_on 28 false rfl 63 rfl (by kernel_rfl)) (some 71) rfl (.bool false) (fun _ => by kernel_rfl) ?_
       refine pV 72 (.bool false) ?_
       refine pV 73 (.bool false) ?_
       refine nT ?_
       have e9 : dB_4 m = false := by simp [dB_4, c0, c1, c2, c3, c4]
       exact ⟨fun k_ => ([.int .u8 m.ty, .bool false, .bool true, .bool true, .pointer (some ⟨g1, 6, none⟩), .int .u64 m.ba, .bool false, .bool false, .bool false] : List Value).getD (k_ - 64) undef, by rw [e9]; kernel_rfl, M⟩
      ·skip
       refine pl_val (want_on 32 true rfl 67 rfl (by kernel_rfl)) (some 70) rfl (.bool true) (fun w => Eq.trans (b := .ok (.value (.bool (!(decide (m.ba = 0))))) w) (by kernel_rfl) (by rw [decide_eq_false (c4)]; rfl)) ?_
       refine pl_val (want_on 28 false rfl 63 rfl (by kernel_rfl)) (some 71) rfl (.bool true) (fun _ => by kernel_rfl) ?_
       refine pV 72 (.bool true) ?_
       refine pV 73 (.bool true) ?_
       refine nT ?_
       have e9 : dB_4 m = true := by simp [dB_4, c0, c1, c2, c3, c4]
       exact ⟨fun k_ => ([.int .u8 m.ty, .bool false, .bool true, .bool true, .pointer (some ⟨g1, 6, none⟩), .int .u64 m.ba, .bool true, .bool true, .bool true] : List Value).getD (k_ - 64) undef, by rw [e9]; kernel_rfl, M⟩
   simp only [List.drop_succ_cons, List.drop_zero]
   intro a u10 hI
   obtain ⟨yv8, rfl, M⟩ := hI
   replace M : Mem ⟨w, []⟩ [⟨g1, .cells (av 17 (ls [.int .u8 m.ty, .string m.fr, .string m.tq, .int .u32 m.ix, .int .u32 m.pe, .int .u64 m.ct, .int .u64 m.ba, .int .u64 m.ve, .string m.tx, .bool (m.ev), .int .u64 m.eh, .int .u64 m.el, .int .u16 m.ep, .int .u16 m.co, .string m.tt, .string m.da, .string m.sg])) 30⟩] u10 := M
   refine pl_cut 10 (fun a w' => ∃ yv9 : Nat → Value, a = ⟨#[.agg (av 17 (ls [.int .u8 m.ty, .string m.fr, .string m.tq, .int .u32 m.ix, .int .u32 m.pe, .int .u64 m.ct, .int .u64 m.ba, .int .u64 m.ve, .string m.tx, .bool (m.ev), .int .u64 m.eh, .int .u64 m.el, .int .u16 m.ep, .int .u16 m.co, .string m.tt, .string m.da, .string m.sg])), .pointer (some ⟨g1, 0, none⟩), .int .i64 0, .int .u8 m.ty, .pointer (some ⟨g1, 0, none⟩), .int .u8 m.ty, .int .u8 m.ty, .string (fdP m.ty), .bool false, yv1 9, yv1 10, yv1 11, yv1 12, yv1 13, .bool (dA1 m), yv2 15, yv2 16, yv2 17, yv2 18, yv2 19, yv2 20, .bool (dA2 m), yv3 22, yv3 23, yv3 24, yv3 25, yv3 26, yv3 27, .bool (dA3 m), yv4 29, yv4 30, yv4 31, yv4 32, yv4 33, .bool false, yv5 35, yv5 36, yv5 37, yv5 38, yv5 39, yv5 40, yv5 41, yv5 42, .bool (dB_1 m), yv6 44, yv6 45, yv6 46, yv6 47, yv6 48, yv6 49, yv6 50, yv6 51, yv6 52, .bool (dB_2 m), yv7 54, yv7 55, yv7 56, yv7 57, yv7 58, yv7 59, yv7 60, yv7 61, yv7 62, .bool (dB_3 m), yv8 64, yv8 65, yv8 66, yv8 67, yv8 68, yv8 69, yv8 70, yv8 71, yv8 72, .bool (dB_4 m), yv9 74, yv9 75, yv9 76, yv9 77, yv9 78, yv9 79, yv9 80, yv9 81, yv9 82, .bool (dB_5 m), undef, undef, undef, undef, undef, undef, undef, undef, undef, undef, undef, undef, undef, undef, undef, undef, undef, undef, undef, undef, undef, undef, undef, undef, undef, undef, undef, undef, undef, undef, undef, undef, undef, undef, undef, undef, undef, undef, undef, undef, undef, undef, undef, undef, undef, undef, undef, undef, undef, undef, undef, undef, undef, undef, undef], []⟩ ∧ Mem ⟨w, []⟩ [⟨g1, .cells (av 17 (ls [.int .u8 m.ty, .string m.fr, .string m.tq, .int .u32 m.ix, .int .u32 m.pe, .int .u64 m.ct, .int .u64 m.ba, .int .u64 m.ve, .string m.tx, .bool (m.ev), .int .u64 m.eh, .int .u64 m.el, .int .u16 m.ep, .int .u16 m.co, .string m.tt, .string m.da, .string m.sg])) 30⟩] w') ?_ ?_
   ·simp only [List.take_succ_cons, List.take_zero]
    rcases Bool.eq_false_or_eq_true (dB_4 m) with c2 | c2
    ·skip
     rw [c2]
     refine pl_skip (want_off 38 false rfl 73 rfl (by kernel_rfl)) (some 74) rfl ?_
     refine pl_skip (want_off 38 false rfl 73 rfl (by kernel_rfl)) (some 75) rfl ?_
     refine pl_skip (want_off 38 false rfl 73 rfl (by kernel_rfl)) (some 76) rfl ?_
     refine pl_skip (want_off 38 false rfl 73 rfl (by kernel_rfl)) (some 77) rfl ?_
     refine pl_skip (want_und 42 true rfl 77 rfl (by kernel_rfl)) (some 78) rfl ?_
     refine pl_skip (want_und 42 true rfl 77 rfl (by kernel_rfl)) (some 79) rfl ?_
     refine pl_skip (want_und 42 true rfl 77 rfl (by kernel_rfl)) (some 80) rfl ?_
     refine pl_skip (want_off 38 false rfl 73 rfl (by kernel_rfl)) (some 81) rfl ?_
     refine pV 82 (.bool true) ?_
     refine pV 83 (.bool true) ?_
     refine nT ?_
     have e9 : dB_5 m = true := by simp [dB_5, c0, c1, c2]
     exact ⟨fun k_ => ([undef, undef, undef, undef, undef, undef, undef, undef, .bool true] : List Value).getD (k_ - 74) undef, by rw [e9]; kernel_rfl, M⟩
    ·skip
     rw [c2]
     refine pl_val (want_on 38 false rfl 73 rfl (by kernel_rfl)) (some 74) rfl (.int .u8 m.ty) (fun _ => by kernel_rfl) ?_
     rcases Bool.eq_false_or_eq_true (hsP m.ty 86) with c3 | c3
     ·skip
      refine pl_call M (want_on 38 false rfl 73 rfl (by kernel_rfl)) (some 75) rfl 29 #[.int .u8 m.ty, .int .u8 86] (.bool true) (fun _ => by kernel_rfl) (fun w M => call_val (d_has m.ty 86 w M.laid) (congrArg Value.bool c3)) fun u11 M => ?_
      refine pl_val (want_on 38 false rfl 73 rfl (by kernel_rfl)) (some 76) rfl (.bool false) (fun _ => by kernel_rfl) ?_
      refine pl_val (want_on 38 false rfl 73 rfl (by kernel_rfl)) (some 77) rfl (.bool false) (fun _ => by kernel_rfl) ?_
      refine pl_skip (want_off 42 true rfl 77 rfl (by kernel_rfl)) (some 78) rfl ?_
      refine pl_skip (want_off 42 true rfl 77 rfl (by kernel_rfl)) (some 79) rfl ?_
      refine pl_skip (want_off 42 true rfl 77 rfl (by kernel_rfl)) (some 80) rfl ?_
      refine pl_val (want_on 38 false rfl 73 rfl (by kernel_rfl)) (some 81) rfl (.bool false) (fun _ => by kernel_rfl) ?_
      refine pV 82 (.bool false) ?_
      refine pV 83 (.bool false) ?_
      refine nT ?_
      have e9 : dB_5 m = false := by simp [dB_5, c0, c1, c2, c3]
      exact ⟨fun k_ => ([.int .u8 m.ty, .bool true, .bool false, .bool false, undef, undef, undef, .bool false, .bool false] : List Value).getD (k_ - 74) undef, by rw [e9]; kernel_rfl, M⟩
     ·skip
      refine pl_call M (want_on 38 false rfl 73 rfl (by kernel_rfl)) (some 75) rfl 29 #[.int .u8 m.ty, .int .u8 86] (.bool false) (fun _ => by kernel_rfl) (fun w M => call_val (d_has m.ty 86 w M.laid) (congrArg Value.bool c3)) fun u11 M => ?_
      refine pl_val (want_on 38 false rfl 73 rfl (by kernel_rfl)) (some 76) rfl (.bool true) (fun _ => by kernel_rfl) ?_
      refine pl_val (want_on 38 false rfl 73 rfl (by kernel_rfl)) (some 77) rfl (.bool true) (fun _ => by kernel_rfl) ?_
      refine pl_val (want_on 42 true rfl 77 rfl (by kernel_rfl)) (some 78) rfl (.pointer (some ⟨g1, 7, none⟩)) (fun _ => by kernel_rfl) ?_
      refine pl_cell M (want_on 42 true rfl 77 rfl (by kernel_rfl)) (some 79) rfl 23 _ rfl g1 7 (by kernel_rfl) (.int .u64 m.ve) (fun _ => by kernel_rfl) (fun w M => M.cell 0 rfl (by decide) rfl) ?_
      by_cases c4 : m.ve = 0
      ·skip
       refine pl_val (want_on 42 true rfl 77 rfl (by kernel_rfl)) (some 80) rfl (.bool false) (fun w => Eq.trans (b := .ok (.value (.bool (!(decide (m.ve = 0))))) w) (by kernel_rfl) (by rw [decide_eq_true (c4)]; rfl)) ?_
       refine pl_val (want_on 38 false rfl 73 rfl (by kernel_rfl)) (some 81) rfl (.bool false) (fun _ => by kernel_rfl) ?_
       refine pV 82 (.bool false) ?_
       refine pV 83 (.bool false) ?_
       refine nT ?_
       have e9 : dB_5 m = false := by simp [dB_5, c0, c1, c2, c3, c4]
       exact ⟨fun k_ => ([.int .u8 m.ty, .bool false, .bool true, .bool true, .pointer (some ⟨g1, 7, none⟩), .int .u64 m.ve, .bool false, .bool false, .bool false] : List Value).getD (k_ - 74) undef, by rw [e9]; kernel_rfl, M⟩
      ·skip
       refine pl_val (want_on 42 true rfl 77 rfl (by kernel_rfl)) (some 80) rfl (.bool true) (fun w => Eq.trans (b := .ok (.value (.bool (!(decide (m.ve = 0))))) w) (by kernel_rfl) (by rw [decide_eq_false (c4)]; rfl)) ?_
       refine pl_val (want_on 38 false rfl 73 rfl (by kernel_rfl)) (some 81) rfl (.bool true) (fun _ => by kernel_rfl) ?_
       refine pV 82 (.bool true) ?_
       refine pV 83 (.bool true) ?_
       refine nT ?_
       have e9 : dB_5 m = true := by simp [dB_5, c0, c1, c2, c3, c4]
       exact ⟨fun k_ => ([.int .u8 m.ty, .bool false, .bool true, .bool true, .pointer (some ⟨g1, 7, none⟩), .int .u64 m.ve, .bool true, .bool true, .bool true] : List Value).getD (k_ - 74) undef, by rw [e9]; kernel_rfl, M⟩
   simp only [List.drop_succ_cons, List.drop_zero]
   intro a u11 hI
   obtain ⟨yv9, rfl, M⟩ := hI
   replace M : Mem ⟨w, []⟩ [⟨g1, .cells (av 17 (ls [.int .u8 m.ty, .string m.fr, .string m.tq, .int .u32 m.ix, .int .u32 m.pe, .int .u64 m.ct, .int .u64 m.ba, .int .u64 m.ve, .string m.tx, .bool (m.ev), .int .u64 m.eh, .int .u64 m.el, .int .u16 m.ep, .int .u16 m.co, .string m.tt, .string m.da, .string m.sg])) 30⟩] u11 := M
   refine pl_cut 9 (fun a w' => ∃ yv10 : Nat → Value, a = ⟨#[.agg (av 17 (ls [.int .u8 m.ty, .string m.fr, .string m.tq, .int .u32 m.ix, .int .u32 m.pe, .int .u64 m.ct, .int .u64 m.ba, .int .u64 m.ve, .string m.tx, .bool (m.ev), .int .u64 m.eh, .int .u64 m.el, .int .u16 m.ep, .int .u16 m.co, .string m.tt, .string m.da, .string m.sg])), .pointer (some ⟨g1, 0, none⟩), .int .i64 0, .int .u8 m.ty, .pointer (some ⟨g1, 0, none⟩), .int .u8 m.ty, .int .u8 m.ty, .string (fdP m.ty), .bool false, yv1 9, yv1 10, yv1 11, yv1 12, yv1 13, .bool (dA1 m), yv2 15, yv2 16, yv2 17, yv2 18, yv2 19, yv2 20, .bool (dA2 m), yv3 22, yv3 23, yv3 24, yv3 25, yv3 26, yv3 27, .bool (dA3 m), yv4 29, yv4 30, yv4 31, yv4 32, yv4 33, .bool false, yv5 35, yv5 36, yv5 37, yv5 38, yv5 39, yv5 40, yv5 41, yv5 42, .bool (dB_1 m), yv6 44, yv6 45, yv6 46, yv6 47, yv6 48, yv6 49, yv6 50, yv6 51, yv6 52, .bool (dB_2 m), yv7 54, yv7 55, yv7 56, yv7 57, yv7 58, yv7 59, yv7 60, yv7 61, yv7 62, .bool (dB_3 m), yv8 64, yv8 65, yv8 66, yv8 67, yv8 68, yv8 69, yv8 70, yv8 71, yv8 72, .bool (dB_4 m), yv9 74, yv9 75, yv9 76, yv9 77, yv9 78, yv9 79, yv9 80, yv9 81, yv9 82, .bool (dB_5 m), yv10 84, yv10 85, yv10 86, yv10 87, yv10 88, yv10 89, yv10 90, yv10 91, .bool (dB_6 m), undef, undef, undef, undef, undef, undef, undef, undef, undef, undef, undef, undef, undef, undef, undef, undef, undef, undef, undef, undef, undef, undef, undef, undef, undef, undef, undef, undef, undef, undef, undef, undef, undef, undef, undef, undef, undef, undef, undef, undef, undef, undef, undef, undef, undef, undef], []⟩ ∧ Mem ⟨w, []⟩ [⟨g1, .cells (av 17 (ls [.int .u8 m.ty, .string m.fr, .string m.tq, .int .u32 m.ix, .int .u32 m.pe, .int .u64 m.ct, .int .u64 m.ba, .int .u64 m.ve, .string m.tx, .bool (m.ev), .int .u64 m.eh, .int .u64 m.el, .int .u16 m.ep, .int .u16 m.co, .string m.tt, .string m.da, .string m.sg])) 30⟩] w') ?_ ?_
   ·simp only [List.take_succ_cons, List.take_zero]
    rcases Bool.eq_false_or_eq_true (dB_5 m) with c2 | c2
    ·skip
     rw [c2]
     refine pl_skip (want_off 48 false rfl 83 rfl (by kernel_rfl)) (some 84) rfl ?_
     refine pl_skip (want_off 48 false rfl 83 rfl (by kernel_rfl)) (some 85) rfl ?_
     refine pl_skip (want_off 48 false rfl 83 rfl (by kernel_rfl)) (some 86) rfl ?_
     refine pl_skip (want_off 48 false rfl 83 rfl (by kernel_rfl)) (some 87) rfl ?_
     refine pl_skip (want_und 52 true rfl 87 rfl (by kernel_rfl)) (some 88) rfl ?_
     refine pl_skip (want_und 52 true rfl 87 rfl (by kernel_rfl)) (some 89) rfl ?_
     refine pl_skip (want_und 52 true rfl 87 rfl (by kernel_rfl)) (some 90) rfl ?_
     refine pl_skip (want_off 48 false rfl 83 rfl (by kernel_rfl)) (some 91) rfl ?_
     refine pV 92 (.bool true) ?_
     refine nT ?_
     have e9 : dB_6 m = true := by simp [dB_6, c0, c1, c2]
     exact ⟨fun k_ => ([undef, undef, undef, undef, undef, undef, undef, undef] : List Value).getD (k_ - 84) undef, by rw [e9]; kernel_rfl, M⟩
    ·skip
     rw [c2]
     refine pl_val (want_on 48 false rfl 83 rfl (by kernel_rfl)) (some 84) rfl (.int .u8 m.ty) (fun _ => by kernel_rfl) ?_
     rcases Bool.eq_false_or_eq_true (hsP m.ty 75) with c3 | c3
     ·skip
      refine pl_call M (want_on 48 false rfl 83 rfl (by kernel_rfl)) (some 85) rfl 29 #[.int .u8 m.ty, .int .u8 75] (.bool true) (fun _ => by kernel_rfl) (fun w M => call_val (d_has m.ty 75 w M.laid) (congrArg Value.bool c3)) fun u12 M => ?_
      refine pl_val (want_on 48 false rfl 83 rfl (by kernel_rfl)) (some 86) rfl (.bool false) (fun _ => by kernel_rfl) ?_
      refine pl_val (want_on 48 false rfl 83 rfl (by kernel_rfl)) (some 87) rfl (.bool false) (fun _ => by kernel_rfl) ?_
      refine pl_skip (want_off 52 true rfl 87 rfl (by kernel_rfl)) (some 88) rfl ?_
      refine pl_skip (want_off 52 true rfl 87 rfl (by kernel_rfl)) (some 89) rfl ?_
      refine pl_skip (want_off 52 true rfl 87 rfl (by kernel_rfl)) (some 90) rfl ?_
      refine pl_val (want_on 48 false rfl 83 rfl (by kernel_rfl)) (some 91) rfl (.bool false) (fun _ => by kernel_rfl) ?_
      refine pV 92 (.bool false) ?_
      refine nT ?_
      have e9 : dB_6 m = false := by simp [dB_6, c0, c1, c2, c3]
      exact ⟨fun k_ => ([.int .u8 m.ty, .bool true, .bool false, .bool false, undef, undef, undef, .bool false] : List Value).getD (k_ - 84) undef, by rw [e9]; kernel_rfl, M⟩
     ·skip
      refine pl_call M (want_on 48 false rfl 83 rfl (by kernel_rfl)) (some 85) rfl 29 #[.int .u8 m.ty, .int .u8 75] (.bool false) (fun _ => by kernel_rfl) (fun w M => call_val (d_has m.ty 75 w M.laid) (congrArg Value.bool c3)) fun u12 M => ?_
      refine pl_val (want_on 48 false rfl 83 rfl (by kernel_rfl)) (some 86) rfl (.bool true) (fun _ => by kernel_rfl) ?_
      refine pl_val (want_on 48 false rfl 83 rfl (by kernel_rfl)) (some 87) rfl (.bool true) (fun _ => by kernel_rfl) ?_
      refine pl_val (want_on 52 true rfl 87 rfl (by kernel_rfl)) (some 88) rfl (.pointer (some ⟨g1, 13, none⟩)) (fun _ => by kernel_rfl) ?_
      refine pl_cell M (want_on 52 true rfl 87 rfl (by kernel_rfl)) (some 89) rfl 26 _ rfl g1 13 (by kernel_rfl) (.int .u16 m.co) (fun _ => by kernel_rfl) (fun w M => M.cell 0 rfl (by decide) rfl) ?_
      by_cases c4 : m.co = 0
      ·skip
       refine pl_val (want_on 52 true rfl 87 rfl (by kernel_rfl)) (some 90) rfl (.bool false) (fun w => Eq.trans (b := .ok (.value (.bool (!(decide (m.co = 0))))) w) (by kernel_rfl) (by rw [decide_eq_true (c4)]; rfl)) ?_
       refine pl_val (want_on 48 false rfl 83 rfl (by kernel_rfl)) (some 91) rfl (.bool false) (fun _ => by kernel_rfl) ?_
       refine pV 92 (.bool false) ?_
       refine nT ?_
       have e9 : dB_6 m = false := by simp [dB_6, c0, c1, c2, c3, c4]
       exact ⟨fun k_ => ([.int .u8 m.ty, .bool false, .bool true, .bool true, .pointer (some ⟨g1, 13, none⟩), .int .u16 m.co, .bool false, .bool false] : List Value).getD (k_ - 84) undef, by rw [e9]; kernel_rfl, M⟩
      ·skip
       refine pl_val (want_on 52 true rfl 87 rfl (by kernel_rfl)) (some 90) rfl (.bool true) (fun w => Eq.trans (b := .ok (.value (.bool (!(decide (m.co = 0))))) w) (by kernel_rfl) (by rw [decide_eq_false (c4)]; rfl)) ?_
       refine pl_val (want_on 48 false rfl 83 rfl (by kernel_rfl)) (some 91) rfl (.bool true) (fun _ => by kernel_rfl) ?_
       refine pV 92 (.bool true) ?_
       refine nT ?_
       have e9 : dB_6 m = true := by simp [dB_6, c0, c1, c2, c3, c4]
       exact ⟨fun k_ => ([.int .u8 m.ty, .bool false, .bool true, .bool true, .pointer (some ⟨g1, 13, none⟩), .int .u16 m.co, .bool true, .bool true] : List Value).getD (k_ - 84) undef, by rw [e9]; kernel_rfl, M⟩
   simp only [List.drop_succ_cons, List.drop_zero]
   intro a u12 hI
   obtain ⟨yv10, rfl, M⟩ := hI
   replace M : Mem ⟨w, []⟩ [⟨g1, .cells (av 17 (ls [.int .u8 m.ty, .string m.fr, .string m.tq, .int .u32 m.ix, .int .u32 m.pe, .int .u64 m.ct, .int .u64 m.ba, .int .u64 m.ve, .string m.tx, .bool (m.ev), .int .u64 m.eh, .int .u64 m.el, .int .u16 m.ep, .int .u16 m.co, .string m.tt, .string m.da, .string m.sg])) 30⟩] u12 := M
   refine nT ?_
   rcases Bool.eq_false_or_eq_true (dB_6 m) with c2 | c2
   ·skip
    rw [c2]
    refine wp_cond_true (by kernel_rfl) ?_
    refine sR ?_
    refine pV 2 (.int .i64 151) ?_
    refine nT ?_
    refine wp_ret ?_
    refine au_then_ret ?_
    have e0 : (dE m) = 151 := by simp only [dE, if_neg c0, if_neg (Bool.eq_false_iff.1 c1), if_pos c2]
    exact bodyPost_ret (v := .int .i64 151) (results_tmp1 Try.results15 _ _ _ (by kernel_rfl)) (by kernel_rfl) ⟨by rw [e0], below_grown M.old⟩
   ·skip
    rw [c2]
    refine wp_cond_false (by kernel_rfl) ?_
    refine wp_skip ?_
    refine au_then ?_
    refine wp_seq ?_
    refine sR ?_
    refine pl_cut 9 (fun a w' => ∃ yv11 : Nat → Value, a = ⟨#[.agg (av 17 (ls [.int .u8 m.ty, .string m.fr, .string m.tq, .int .u32 m.ix, .int .u32 m.pe, .int .u64 m.ct, .int .u64 m.ba, .int .u64 m.ve, .string m.tx, .bool (m.ev), .int .u64 m.eh, .int .u64 m.el, .int .u16 m.ep, .int .u16 m.co, .string m.tt, .string m.da, .string m.sg])), .pointer (some ⟨g1, 0, none⟩), .int .i64 0, .int .u8 m.ty, .pointer (some ⟨g1, 0, none⟩), .int .u8 m.ty, .int .u8 m.ty, .string (fdP m.ty), .bool false, yv1 9, yv1 10, yv1 11, yv1 12, yv1 13, .bool (dA1 m), yv2 15, yv2 16, yv2 17, yv2 18, yv2 19, yv2 20, .bool (dA2 m), yv3 22, yv3 23, yv3 24, yv3 25, yv3 26, yv3 27, .bool (dA3 m), yv4 29, yv4 30, yv4 31, yv4 32, yv4 33, .bool false, yv5 35, yv5 36, yv5 37, yv5 38, yv5 39, yv5 40, yv5 41, yv5 42, .bool (dB_1 m), yv6 44, yv6 45, yv6 46, yv6 47, yv6 48, yv6 49, yv6 50, yv6 51, yv6 52, .bool (dB_2 m), yv7 54, yv7 55, yv7 56, yv7 57, yv7 58, yv7 59, yv7 60, yv7 61, yv7 62, .bool (dB_3 m), yv8 64, yv8 65, yv8 66, yv8 67, yv8 68, yv8 69, yv8 70, yv8 71, yv8 72, .bool (dB_4 m), yv9 74, yv9 75, yv9 76, yv9 77, yv9 78, yv9 79, yv9 80, yv9 81, yv9 82, .bool (dB_5 m), yv10 84, yv10 85, yv10 86, yv10 87, yv10 88, yv10 89, yv10 90, yv10 91, .bool false, yv11 93, yv11 94, yv11 95, yv11 96, yv11 97, yv11 98, yv11 99, yv11 100, .bool (dC1 m), undef, undef, undef, undef, undef, undef, undef, undef, undef, undef, undef, undef, undef, undef, undef, undef, undef, undef, undef, undef, undef, undef, undef, undef, undef, undef, undef, undef, undef, undef, undef, undef, undef, undef, undef, undef, undef], []⟩ ∧ Mem ⟨w, []⟩ [⟨g1, .cells (av 17 (ls [.int .u8 m.ty, .string m.fr, .string m.tq, .int .u32 m.ix, .int .u32 m.pe, .int .u64 m.ct, .int .u64 m.ba, .int .u64 m.ve, .string m.tx, .bool (m.ev), .int .u64 m.eh, .int .u64 m.el, .int .u16 m.ep, .int .u16 m.co, .string m.tt, .string m.da, .string m.sg])) 30⟩] w') ?_ ?_
    ·simp only [List.take_succ_cons, List.take_zero]
     refine pV 93 (.int .u8 m.ty) ?_
     rcases Bool.eq_false_or_eq_true (hsP m.ty 78) with c3 | c3
     ·skip
      refine pC M 94 29 #[.int .u8 m.ty, .int .u8 78] (.bool true) (fun w M => call_val (d_has m.ty 78 w M.laid) (congrArg Value.bool c3)) fun u13 M => ?_
      refine pV 95 (.bool false) ?_
      refine pV 96 (.bool false) ?_
      refine pl_skip (want_off 3 true rfl 96 rfl (by kernel_rfl)) (some 97) rfl ?_
      refine pl_skip (want_off 3 true rfl 96 rfl (by kernel_rfl)) (some 98) rfl ?_
      refine pl_skip (want_off 3 true rfl 96 rfl (by kernel_rfl)) (some 99) rfl ?_
      refine pV 100 (.bool false) ?_
      refine pV 101 (.bool false) ?_
      refine nT ?_
      have e9 : dC1 m = false := by simp [dC1, c0, c1, c2, c3]
      exact ⟨fun k_ => ([.int .u8 m.ty, .bool true, .bool false, .bool false, undef, undef, undef, .bool false] : List Value).getD (k_ - 93) undef, by rw [e9]; kernel_rfl, M⟩
     ·skip
      refine pC M 94 29 #[.int .u8 m.ty, .int .u8 78] (.bool false) (fun w M => call_val (d_has m.ty 78 w M.laid) (congrArg Value.bool c3)) fun u13 M => ?_
      refine pV 95 (.bool true) ?_
      refine pV 96 (.bool true) ?_
      refine pl_val (want_on 3 true rfl 96 rfl (by kernel_rfl)) (some 97) rfl (.pointer (some ⟨g1, 14, none⟩)) (fun _ => by kernel_rfl) ?_
      refine pl_cell M (want_on 3 true rfl 96 rfl (by kernel_rfl)) (some 98) rfl 9 _ rfl g1 14 (by kernel_rfl) (.string m.tt) (fun _ => by kernel_rfl) (fun w M => M.cell 0 rfl (by decide) rfl) ?_
      by_cases c4 : m.tt = (⟨#[]⟩ : ByteArray)
      ·skip
       refine pl_val (want_on 3 true rfl 96 rfl (by kernel_rfl)) (some 99) rfl (.bool false) (fun w => Eq.trans (b := .ok (.value (.bool (!(m.tt.toList == (⟨#[]⟩ : ByteArray).toList)))) w) (by kernel_rfl) (by rw [seq_pos c4]; rfl)) ?_
       refine pV 100 (.bool false) ?_
       refine pV 101 (.bool false) ?_
       refine nT ?_
       have e9 : dC1 m = false := by simp [dC1, c0, c1, c2, c3, c4]
       exact ⟨fun k_ => ([.int .u8 m.ty, .bool false, .bool true, .bool true, .pointer (some ⟨g1, 14, none⟩), .string m.tt, .bool false, .bool false] : List Value).getD (k_ - 93) undef, by rw [e9]; kernel_rfl, M⟩
      ·skip
       refine pl_val (want_on 3 true rfl 96 rfl (by kernel_rfl)) (some 99) rfl (.bool true) (fun w => Eq.trans (b := .ok (.value (.bool (!(m.tt.toList == (⟨#[]⟩ : ByteArray).toList)))) w) (by kernel_rfl) (by rw [seq_neg c4]; rfl)) ?_
       refine pV 100 (.bool true) ?_
       refine pV 101 (.bool true) ?_
       refine nT ?_
       have e9 : dC1 m = true := by simp [dC1, c0, c1, c2, c3, c4]
       exact ⟨fun k_ => ([.int .u8 m.ty, .bool false, .bool true, .bool true, .pointer (some ⟨g1, 14, none⟩), .string m.tt, .bool true, .bool true] : List Value).getD (k_ - 93) undef, by rw [e9]; kernel_rfl, M⟩
    simp only [List.drop_succ_cons, List.drop_zero]
    intro a u13 hI
    obtain ⟨yv11, rfl, M⟩ := hI
    replace M : Mem ⟨w, []⟩ [⟨g1, .cells (av 17 (ls [.int .u8 m.ty, .string m.fr, .string m.tq, .int .u32 m.ix, .int .u32 m.pe, .int .u64 m.ct, .int .u64 m.ba, .int .u64 m.ve, .string m.tx, .bool (m.ev), .int .u64 m.eh, .int .u64 m.el, .int .u16 m.ep, .int .u16 m.co, .string m.tt, .string m.da, .string m.sg])) 30⟩] u13 := M
    refine pl_cut 10 (fun a w' => ∃ yv12 : Nat → Value, a = ⟨#[.agg (av 17 (ls [.int .u8 m.ty, .string m.fr, .string m.tq, .int .u32 m.ix, .int .u32 m.pe, .int .u64 m.ct, .int .u64 m.ba, .int .u64 m.ve, .string m.tx, .bool (m.ev), .int .u64 m.eh, .int .u64 m.el, .int .u16 m.ep, .int .u16 m.co, .string m.tt, .string m.da, .string m.sg])), .pointer (some ⟨g1, 0, none⟩), .int .i64 0, .int .u8 m.ty, .pointer (some ⟨g1, 0, none⟩), .int .u8 m.ty, .int .u8 m.ty, .string (fdP m.ty), .bool false, yv1 9, yv1 10, yv1 11, yv1 12, yv1 13, .bool (dA1 m), yv2 15, yv2 16, yv2 17, yv2 18, yv2 19, yv2 20, .bool (dA2 m), yv3 22, yv3 23, yv3 24, yv3 25, yv3 26, yv3 27, .bool (dA3 m), yv4 29, yv4 30, yv4 31, yv4 32, yv4 33, .bool false, yv5 35, yv5 36, yv5 37, yv5 38, yv5 39, yv5 40, yv5 41, yv5 42, .bool (dB_1 m), yv6 44, yv6 45, yv6 46, yv6 47, yv6 48, yv6 49, yv6 50, yv6 51, yv6 52, .bool (dB_2 m), yv7 54, yv7 55, yv7 56, yv7 57, yv7 58, yv7 59, yv7 60, yv7 61, yv7 62, .bool (dB_3 m), yv8 64, yv8 65, yv8 66, yv8 67, yv8 68, yv8 69, yv8 70, yv8 71, yv8 72, .bool (dB_4 m), yv9 74, yv9 75, yv9 76, yv9 77, yv9 78, yv9 79, yv9 80, yv9 81, yv9 82, .bool (dB_5 m), yv10 84, yv10 85, yv10 86, yv10 87, yv10 88, yv10 89, yv10 90, yv10 91, .bool false, yv11 93, yv11 94, yv11 95, yv11 96, yv11 97, yv11 98, yv11 99, yv11 100, .bool (dC1 m), yv12 102, yv12 103, yv12 104, yv12 105, yv12 106, yv12 107, yv12 108, yv12 109, yv12 110, .bool (dC2 m), undef, undef, undef, undef, undef, undef, undef, undef, undef, undef, undef, undef, undef, undef, undef, undef, undef, undef, undef, undef, undef, undef, undef, undef, undef, undef, undef], []⟩ ∧ Mem ⟨w, []⟩ [⟨g1, .cells (av 17 (ls [.int .u8 m.ty, .string m.fr, .string m.tq, .int .u32 m.ix, .int .u32 m.pe, .int .u64 m.ct, .int .u64 m.ba, .int .u64 m.ve, .string m.tx, .bool (m.ev), .int .u64 m.eh, .int .u64 m.el, .int .u16 m.ep, .int .u16 m.co, .string m.tt, .string m.da, .string m.sg])) 30⟩] w') ?_ ?_
    ·simp only [List.take_succ_cons, List.take_zero]
     rcases Bool.eq_false_or_eq_true (dC1 m) with c3 | c3
     ·skip
      rw [c3]
      refine pl_skip (want_off 8 false rfl 101 rfl (by kernel_rfl)) (some 102) rfl ?_
      refine pl_skip (want_off 8 false rfl 101 rfl (by kernel_rfl)) (some 103) rfl ?_
      refine pl_skip (want_off 8 false rfl 101 rfl (by kernel_rfl)) (some 104) rfl ?_
      refine pl_skip (want_off 8 false rfl 101 rfl (by kernel_rfl)) (some 105) rfl ?_
      refine pl_skip (want_und 12 true rfl 105 rfl (by kernel_rfl)) (some 106) rfl ?_
      refine pl_skip (want_und 12 true rfl 105 rfl (by kernel_rfl)) (some 107) rfl ?_
      refine pl_skip (want_und 12 true rfl 105 rfl (by kernel_rfl)) (some 108) rfl ?_
      refine pl_skip (want_off 8 false rfl 101 rfl (by kernel_rfl)) (some 109) rfl ?_
      refine pV 110 (.bool true) ?_
      refine pV 111 (.bool true) ?_
      refine nT ?_
      have e9 : dC2 m = true := by simp [dC2, c0, c1, c2, c3]
      exact ⟨fun k_ => ([undef, undef, undef, undef, undef, undef, undef, undef, .bool true] : List Value).getD (k_ - 102) undef, by rw [e9]; kernel_rfl, M⟩
     ·skip
      rw [c3]
      refine pl_val (want_on 8 false rfl 101 rfl (by kernel_rfl)) (some 102) rfl (.int .u8 m.ty) (fun _ => by kernel_rfl) ?_
      rcases Bool.eq_false_or_eq_true (hsP m.ty 68) with c4 | c4
      ·skip
       refine pl_call M (want_on 8 false rfl 101 rfl (by kernel_rfl)) (some 103) rfl 29 #[.int .u8 m.ty, .int .u8 68] (.bool true) (fun _ => by kernel_rfl) (fun w M => call_val (d_has m.ty 68 w M.laid) (congrArg Value.bool c4)) fun u14 M => ?_
       refine pl_val (want_on 8 false rfl 101 rfl (by kernel_rfl)) (some 104) rfl (.bool false) (fun _ => by kernel_rfl) ?_
       refine pl_val (want_on 8 false rfl 101 rfl (by kernel_rfl)) (some 105) rfl (.bool false) (fun _ => by kernel_rfl) ?_
       refine pl_skip (want_off 12 true rfl 105 rfl (by kernel_rfl)) (some 106) rfl ?_
       refine pl_skip (want_off 12 true rfl 105 rfl (by kernel_rfl)) (some 107) rfl ?_
       refine pl_skip (want_off 12 true rfl 105 rfl (by kernel_rfl)) (some 108) rfl ?_
       refine pl_val (want_on 8 false rfl 101 rfl (by kernel_rfl)) (some 109) rfl (.bool false) (fun _ => by kernel_rfl) ?_
       refine pV 110 (.bool false) ?_
       refine pV 111 (.bool false) ?_
       refine nT ?_
       have e9 : dC2 m = false := by simp [dC2, c0, c1, c2, c3, c4]
       exact ⟨fun k_ => ([.int .u8 m.ty, .bool true, .bool false, .bool false, undef, undef, undef, .bool false, .bool false] : List Value).getD (k_ - 102) undef, by rw [e9]; kernel_rfl, M⟩
      ·skip
       refine pl_call M (want_on 8 false rfl 101 rfl (by kernel_rfl)) (some 103) rfl 29 #[.int .u8 m.ty, .int .u8 68] (.bool false) (fun _ => by kernel_rfl) (fun w M => call_val (d_has m.ty 68 w M.laid) (congrArg Value.bool c4)) fun u14 M => ?_
       refine pl_val (want_on 8 false rfl 101 rfl (by kernel_rfl)) (some 104) rfl (.bool true) (fun _ => by kernel_rfl) ?_
       refine pl_val (want_on 8 false rfl 101 rfl (by kernel_rfl)) (some 105) rfl (.bool true) (fun _ => by kernel_rfl) ?_
       refine pl_val (want_on 12 true rfl 105 rfl (by kernel_rfl)) (some 106) rfl (.pointer (some ⟨g1, 15, none⟩)) (fun _ => by kernel_rfl) ?_
       refine pl_cell M (want_on 12 true rfl 105 rfl (by kernel_rfl)) (some 107) rfl 9 _ rfl g1 15 (by kernel_rfl) (.string m.da) (fun _ => by kernel_rfl) (fun w M => M.cell 0 rfl (by decide) rfl) ?_
       by_cases c5 : m.da = (⟨#[]⟩ : ByteArray)
       ·skip
        refine pl_val (want_on 12 true rfl 105 rfl (by kernel_rfl)) (some 108) rfl (.bool false) (fun w => Eq.trans (b := .ok (.value (.bool (!(m.da.toList == (⟨#[]⟩ : ByteArray).toList)))) w) (by kernel_rfl) (by rw [seq_pos c5]; rfl)) ?_
        refine pl_val (want_on 8 false rfl 101 rfl (by kernel_rfl)) (some 109) rfl (.bool false) (fun _ => by kernel_rfl) ?_
        refine pV 110 (.bool false) ?_
        refine pV 111 (.bool false) ?_
        refine nT ?_
        have e9 : dC2 m = false := by simp [dC2, c0, c1, c2, c3, c4, c5]
        exact ⟨fun k_ => ([.int .u8 m.ty, .bool false, .bool true, .bool true, .pointer (some ⟨g1, 15, none⟩), .string m.da, .bool false, .bool false, .bool false] : List Value).getD (k_ - 102) undef, by rw [e9]; kernel_rfl, M⟩
       ·skip
        refine pl_val (want_on 12 true rfl 105 rfl (by kernel_rfl)) (some 108) rfl (.bool true) (fun w => Eq.trans (b := .ok (.value (.bool (!(m.da.toList == (⟨#[]⟩ : ByteArray).toList)))) w) (by kernel_rfl) (by rw [seq_neg c5]; rfl)) ?_
        refine pl_val (want_on 8 false rfl 101 rfl (by kernel_rfl)) (some 109) rfl (.bool true) (fun _ => by kernel_rfl) ?_
        refine pV 110 (.bool true) ?_
        refine pV 111 (.bool true) ?_
        refine nT ?_
        have e9 : dC2 m = true := by simp [dC2, c0, c1, c2, c3, c4, c5]
        exact ⟨fun k_ => ([.int .u8 m.ty, .bool false, .bool true, .bool true, .pointer (some ⟨g1, 15, none⟩), .string m.da, .bool true, .bool true, .bool true] : List Value).getD (k_ - 102) undef, by rw [e9]; kernel_rfl, M⟩
    simp only [List.drop_succ_cons, List.drop_zero]
    intro a u14 hI
    obtain ⟨yv12, rfl, M⟩ := hI
    replace M : Mem ⟨w, []⟩ [⟨g1, .cells (av 17 (ls [.int .u8 m.ty, .string m.fr, .string m.tq, .int .u32 m.ix, .int .u32 m.pe, .int .u64 m.ct, .int .u64 m.ba, .int .u64 m.ve, .string m.tx, .bool (m.ev), .int .u64 m.eh, .int .u64 m.el, .int .u16 m.ep, .int .u16 m.co, .string m.tt, .string m.da, .string m.sg])) 30⟩] u14 := M
    refine pl_cut 11 (fun a w' => ∃ yv13 : Nat → Value, a = ⟨#[.agg (av 17 (ls [.int .u8 m.ty, .string m.fr, .string m.tq, .int .u32 m.ix, .int .u32 m.pe, .int .u64 m.ct, .int .u64 m.ba, .int .u64 m.ve, .string m.tx, .bool (m.ev), .int .u64 m.eh, .int .u64 m.el, .int .u16 m.ep, .int .u16 m.co, .string m.tt, .string m.da, .string m.sg])), .pointer (some ⟨g1, 0, none⟩), .int .i64 0, .int .u8 m.ty, .pointer (some ⟨g1, 0, none⟩), .int .u8 m.ty, .int .u8 m.ty, .string (fdP m.ty), .bool false, yv1 9, yv1 10, yv1 11, yv1 12, yv1 13, .bool (dA1 m), yv2 15, yv2 16, yv2 17, yv2 18, yv2 19, yv2 20, .bool (dA2 m), yv3 22, yv3 23, yv3 24, yv3 25, yv3 26, yv3 27, .bool (dA3 m), yv4 29, yv4 30, yv4 31, yv4 32, yv4 33, .bool false, yv5 35, yv5 36, yv5 37, yv5 38, yv5 39, yv5 40, yv5 41, yv5 42, .bool (dB_1 m), yv6 44, yv6 45, yv6 46, yv6 47, yv6 48, yv6 49, yv6 50, yv6 51, yv6 52, .bool (dB_2 m), yv7 54, yv7 55, yv7 56, yv7 57, yv7 58, yv7 59, yv7 60, yv7 61, yv7 62, .bool (dB_3 m), yv8 64, yv8 65, yv8 66, yv8 67, yv8 68, yv8 69, yv8 70, yv8 71, yv8 72, .bool (dB_4 m), yv9 74, yv9 75, yv9 76, yv9 77, yv9 78, yv9 79, yv9 80, yv9 81, yv9 82, .bool (dB_5 m), yv10 84, yv10 85, yv10 86, yv10 87, yv10 88, yv10 89, yv10 90, yv10 91, .bool false, yv11 93, yv11 94, yv11 95, yv11 96, yv11 97, yv11 98, yv11 99, yv11 100, .bool (dC1 m), yv12 102, yv12 103, yv12 104, yv12 105, yv12 106, yv12 107, yv12 108, yv12 109, yv12 110, .bool (dC2 m), yv13 112, yv13 113, yv13 114, yv13 115, yv13 116, yv13 117, yv13 118, yv13 119, yv13 120, yv13 121, .bool (dC3 m), undef, undef, undef, undef, undef, undef, undef, undef, undef, undef, undef, undef, undef, undef, undef, undef], []⟩ ∧ Mem ⟨w, []⟩ [⟨g1, .cells (av 17 (ls [.int .u8 m.ty, .string m.fr, .string m.tq, .int .u32 m.ix, .int .u32 m.pe, .int .u64 m.ct, .int .u64 m.ba, .int .u64 m.ve, .string m.tx, .bool (m.ev), .int .u64 m.eh, .int .u64 m.el, .int .u16 m.ep, .int .u16 m.co, .string m.tt, .string m.da, .string m.sg])) 30⟩] w') ?_ ?_
    ·simp only [List.take_succ_cons, List.take_zero]
     rcases Bool.eq_false_or_eq_true (dC2 m) with c3 | c3
     ·skip
      rw [c3]
      refine pl_skip (want_off 18 false rfl 111 rfl (by kernel_rfl)) (some 112) rfl ?_
      refine pl_skip (want_off 18 false rfl 111 rfl (by kernel_rfl)) (some 113) rfl ?_
      refine pl_skip (want_off 18 false rfl 111 rfl (by kernel_rfl)) (some 114) rfl ?_
      refine pl_skip (want_off 18 false rfl 111 rfl (by kernel_rfl)) (some 115) rfl ?_
      refine pl_skip (want_und 22 true rfl 115 rfl (by kernel_rfl)) (some 116) rfl ?_
      refine pl_skip (want_und 22 true rfl 115 rfl (by kernel_rfl)) (some 117) rfl ?_
      refine pl_skip (want_und 22 true rfl 115 rfl (by kernel_rfl)) (some 118) rfl ?_
      refine pl_skip (want_und 22 true rfl 115 rfl (by kernel_rfl)) (some 119) rfl ?_
      refine pl_skip (want_off 18 false rfl 111 rfl (by kernel_rfl)) (some 120) rfl ?_
      refine pV 121 (.bool true) ?_
      refine pV 122 (.bool true) ?_
      refine nT ?_
      have e9 : dC3 m = true := by simp [dC3, c0, c1, c2, c3]
      exact ⟨fun k_ => ([undef, undef, undef, undef, undef, undef, undef, undef, undef, .bool true] : List Value).getD (k_ - 112) undef, by rw [e9]; kernel_rfl, M⟩
     ·skip
      rw [c3]
      refine pl_val (want_on 18 false rfl 111 rfl (by kernel_rfl)) (some 112) rfl (.int .u8 m.ty) (fun _ => by kernel_rfl) ?_
      rcases Bool.eq_false_or_eq_true (hsP m.ty 69) with c4 | c4
      ·skip
       refine pl_call M (want_on 18 false rfl 111 rfl (by kernel_rfl)) (some 113) rfl 29 #[.int .u8 m.ty, .int .u8 69] (.bool true) (fun _ => by kernel_rfl) (fun w M => call_val (d_has m.ty 69 w M.laid) (congrArg Value.bool c4)) fun u15 M => ?_
       refine pl_val (want_on 18 false rfl 111 rfl (by kernel_rfl)) (some 114) rfl (.bool false) (fun _ => by kernel_rfl) ?_
       refine pl_val (want_on 18 false rfl 111 rfl (by kernel_rfl)) (some 115) rfl (.bool false) (fun _ => by kernel_rfl) ?_
       refine pl_skip (want_off 22 true rfl 115 rfl (by kernel_rfl)) (some 116) rfl ?_
       refine pl_skip (want_off 22 true rfl 115 rfl (by kernel_rfl)) (some 117) rfl ?_
       refine pl_skip (want_off 22 true rfl 115 rfl (by kernel_rfl)) (some 118) rfl ?_
       refine pl_skip (want_off 22 true rfl 115 rfl (by kernel_rfl)) (some 119) rfl ?_
       refine pl_val (want_on 18 false rfl 111 rfl (by kernel_rfl)) (some 120) rfl (.bool false) (fun _ => by kernel_rfl) ?_
       refine pV 121 (.bool false) ?_
       refine pV 122 (.bool false) ?_
       refine nT ?_
       have e9 : dC3 m = false := by simp [dC3, c0, c1, c2, c3, c4]
       exact ⟨fun k_ => ([.int .u8 m.ty, .bool true, .bool false, .bool false, undef, undef, undef, undef, .bool false, .bool false] : List Value).getD (k_ - 112) undef, by rw [e9]; kernel_rfl, M⟩
      ·skip
       refine pl_call M (want_on 18 false rfl 111 rfl (by kernel_rfl)) (some 113) rfl 29 #[.int .u8 m.ty, .int .u8 69] (.bool false) (fun _ => by kernel_rfl) (fun w M => call_val (d_has m.ty 69 w M.laid) (congrArg Value.bool c4)) fun u15 M => ?_
       refine pl_val (want_on 18 false rfl 111 rfl (by kernel_rfl)) (some 114) rfl (.bool true) (fun _ => by kernel_rfl) ?_
       refine pl_val (want_on 18 false rfl 111 rfl (by kernel_rfl)) (some 115) rfl (.bool true) (fun _ => by kernel_rfl) ?_
       refine pl_val (want_on 22 true rfl 115 rfl (by kernel_rfl)) (some 116) rfl (.pointer (some ⟨g1, 9, none⟩)) (fun _ => by kernel_rfl) ?_
       refine pl_load M (want_on 22 true rfl 115 rfl (by kernel_rfl)) (some 117) rfl 28 _ rfl 0 g1 9 (by kernel_rfl) 17 30 (ls [.int .u8 m.ty, .string m.fr, .string m.tq, .int .u32 m.ix, .int .u32 m.pe, .int .u64 m.ct, .int .u64 m.ba, .int .u64 m.ve, .string m.tx, .bool (m.ev), .int .u64 m.eh, .int .u64 m.el, .int .u16 m.ep, .int .u16 m.co, .string m.tt, .string m.da, .string m.sg]) rfl 4 (ls [.bool (m.ev), .int .u64 m.eh, .int .u64 m.el, .int .u16 m.ep]) (part_ls _ 9 4 _ rfl) (by decide) _ Try.underlying28 rfl inz28 ?_
       refine pl_val (want_on 22 true rfl 115 rfl (by kernel_rfl)) (some 118) rfl (.agg (av 4 (ls [.bool false, .int .u64 0, .int .u64 0, .int .u16 0]))) (fun _ => by kernel_rfl) ?_
       by_cases c5 : m.ev = false ∧ m.eh = (0 : Int) ∧ m.el = (0 : Int) ∧ m.ep = (0 : Int)
       ·skip
        refine pl_val (want_on 22 true rfl 115 rfl (by kernel_rfl)) (some 119) rfl (.bool false) (fun w => (neq28 m.ev false m.eh (0 : Int) m.el (0 : Int) m.ep (0 : Int) _ _ rfl (by kernel_rfl) (by kernel_rfl) w).trans (by rw [decide_eq_true c5]; rfl)) ?_
        refine pl_val (want_on 18 false rfl 111 rfl (by kernel_rfl)) (some 120) rfl (.bool false) (fun _ => by kernel_rfl) ?_
        refine pV 121 (.bool false) ?_
        refine pV 122 (.bool false) ?_
        refine nT ?_
        have e9 : dC3 m = false := by simp [dC3, c0, c1, c2, c3, c4, c5]
        exact ⟨fun k_ => ([.int .u8 m.ty, .bool false, .bool true, .bool true, .pointer (some ⟨g1, 9, none⟩), .agg (av 4 (ls [.bool (m.ev), .int .u64 m.eh, .int .u64 m.el, .int .u16 m.ep])), .agg (av 4 (ls [.bool false, .int .u64 0, .int .u64 0, .int .u16 0])), .bool false, .bool false, .bool false] : List Value).getD (k_ - 112) undef, by rw [e9]; kernel_rfl, M⟩
       ·skip
        refine pl_val (want_on 22 true rfl 115 rfl (by kernel_rfl)) (some 119) rfl (.bool true) (fun w => (neq28 m.ev false m.eh (0 : Int) m.el (0 : Int) m.ep (0 : Int) _ _ rfl (by kernel_rfl) (by kernel_rfl) w).trans (by rw [decide_eq_false c5]; rfl)) ?_
        refine pl_val (want_on 18 false rfl 111 rfl (by kernel_rfl)) (some 120) rfl (.bool true) (fun _ => by kernel_rfl) ?_
        refine pV 121 (.bool true) ?_
        refine pV 122 (.bool true) ?_
        refine nT ?_
        have e9 : dC3 m = true := by simp [dC3, c0, c1, c2, c3, c4, c5]
        exact ⟨fun k_ => ([.int .u8 m.ty, .bool false, .bool true, .bool true, .pointer (some ⟨g1, 9, none⟩), .agg (av 4 (ls [.bool (m.ev), .int .u64 m.eh, .int .u64 m.el, .int .u16 m.ep])), .agg (av 4 (ls [.bool false, .int .u64 0, .int .u64 0, .int .u16 0])), .bool true, .bool true, .bool true] : List Value).getD (k_ - 112) undef, by rw [e9]; kernel_rfl, M⟩
    simp only [List.drop_succ_cons, List.drop_zero]
    intro a u15 hI
    obtain ⟨yv13, rfl, M⟩ := hI
    replace M : Mem ⟨w, []⟩ [⟨g1, .cells (av 17 (ls [.int .u8 m.ty, .string m.fr, .string m.tq, .int .u32 m.ix, .int .u32 m.pe, .int .u64 m.ct, .int .u64 m.ba, .int .u64 m.ve, .string m.tx, .bool (m.ev), .int .u64 m.eh, .int .u64 m.el, .int .u16 m.ep, .int .u16 m.co, .string m.tt, .string m.da, .string m.sg])) 30⟩] u15 := M
    refine pl_cut 6 (fun a w' => ∃ yv14 : Nat → Value, a = ⟨#[.agg (av 17 (ls [.int .u8 m.ty, .string m.fr, .string m.tq, .int .u32 m.ix, .int .u32 m.pe, .int .u64 m.ct, .int .u64 m.ba, .int .u64 m.ve, .string m.tx, .bool (m.ev), .int .u64 m.eh, .int .u64 m.el, .int .u16 m.ep, .int .u16 m.co, .string m.tt, .string m.da, .string m.sg])), .pointer (some ⟨g1, 0, none⟩), .int .i64 0, .int .u8 m.ty, .pointer (some ⟨g1, 0, none⟩), .int .u8 m.ty, .int .u8 m.ty, .string (fdP m.ty), .bool false, yv1 9, yv1 10, yv1 11, yv1 12, yv1 13, .bool (dA1 m), yv2 15, yv2 16, yv2 17, yv2 18, yv2 19, yv2 20, .bool (dA2 m), yv3 22, yv3 23, yv3 24, yv3 25, yv3 26, yv3 27, .bool (dA3 m), yv4 29, yv4 30, yv4 31, yv4 32, yv4 33, .bool false, yv5 35, yv5 36, yv5 37, yv5 38, yv5 39, yv5 40, yv5 41, yv5 42, .bool (dB_1 m), yv6 44, yv6 45, yv6 46, yv6 47, yv6 48, yv6 49, yv6 50, yv6 51, yv6 52, .bool (dB_2 m), yv7 54, yv7 55, yv7 56, yv7 57, yv7 58, yv7 59, yv7 60, yv7 61, yv7 62, .bool (dB_3 m), yv8 64, yv8 65, yv8 66, yv8 67, yv8 68, yv8 69, yv8 70, yv8 71, yv8 72, .bool (dB_4 m), yv9 74, yv9 75, yv9 76, yv9 77, yv9 78, yv9 79, yv9 80, yv9 81, yv9 82, .bool (dB_5 m), yv10 84, yv10 85, yv10 86, yv10 87, yv10 88, yv10 89, yv10 90, yv10 91, .bool false, yv11 93, yv11 94, yv11 95, yv11 96, yv11 97, yv11 98, yv11 99, yv11 100, .bool (dC1 m), yv12 102, yv12 103, yv12 104, yv12 105, yv12 106, yv12 107, yv12 108, yv12 109, yv12 110, .bool (dC2 m), yv13 112, yv13 113, yv13 114, yv13 115, yv13 116, yv13 117, yv13 118, yv13 119, yv13 120, yv13 121, .bool (dC3 m), yv14 123, yv14 124, yv14 125, yv14 126, yv14 127, .bool (dC4 m), undef, undef, undef, undef, undef, undef, undef, undef, undef, undef], []⟩ ∧ Mem ⟨w, []⟩ [⟨g1, .cells (av 17 (ls [.int .u8 m.ty, .string m.fr, .string m.tq, .int .u32 m.ix, .int .u32 m.pe, .int .u64 m.ct, .int .u64 m.ba, .int .u64 m.ve, .string m.tx, .bool (m.ev), .int .u64 m.eh, .int .u64 m.el, .int .u16 m.ep, .int .u16 m.co, .string m.tt, .string m.da, .string m.sg])) 30⟩] w') ?_ ?_
    ·simp only [List.take_succ_cons, List.take_zero]
     rcases Bool.eq_false_or_eq_true (dC3 m) with c3 | c3
     ·skip
      rw [c3]
      refine pl_skip (want_off 29 false rfl 122 rfl (by kernel_rfl)) (some 123) rfl ?_
      refine pl_skip (want_off 29 false rfl 122 rfl (by kernel_rfl)) (some 124) rfl ?_
      refine pl_skip (want_off 29 false rfl 122 rfl (by kernel_rfl)) (some 125) rfl ?_
      refine pl_skip (want_off 29 false rfl 122 rfl (by kernel_rfl)) (some 126) rfl ?_
      refine pl_skip (want_off 29 false rfl 122 rfl (by kernel_rfl)) (some 127) rfl ?_
      refine pV 128 (.bool true) ?_
      refine nT ?_
      have e9 : dC4 m = true := by simp [dC4, c0, c1, c2, c3]
      exact ⟨fun k_ => ([undef, undef, undef, undef, undef] : List Value).getD (k_ - 123) undef, by rw [e9]; kernel_rfl, M⟩
     ·skip
      rw [c3]
      refine pl_val (want_on 29 false rfl 122 rfl (by kernel_rfl)) (some 123) rfl (.pointer (some ⟨g1, 9, none⟩)) (fun _ => by kernel_rfl) ?_
      refine pl_val (want_on 29 false rfl 122 rfl (by kernel_rfl)) (some 124) rfl (.pointer (some ⟨g1, 9, none⟩)) (fun _ => by kernel_rfl) ?_
      refine pl_load M (want_on 29 false rfl 122 rfl (by kernel_rfl)) (some 125) rfl 25 _ rfl 0 g1 9 (by kernel_rfl) 17 30 (ls [.int .u8 m.ty, .string m.fr, .string m.tq, .int .u32 m.ix, .int .u32 m.pe, .int .u64 m.ct, .int .u64 m.ba, .int .u64 m.ve, .string m.tx, .bool (m.ev), .int .u64 m.eh, .int .u64 m.el, .int .u16 m.ep, .int .u16 m.co, .string m.tt, .string m.da, .string m.sg]) rfl 3 (ls [.bool (m.ev), .int .u64 m.eh, .int .u64 m.el]) (part_ls _ 9 3 _ rfl) (by decide) _ Try.underlying25 rfl inz25 ?_
      rcases Bool.eq_false_or_eq_true (mA m.ev m.eh m.el) with c4 | c4
      ·skip
       refine pl_call M (want_on 29 false rfl 122 rfl (by kernel_rfl)) (some 126) rfl 30 #[.agg (av 3 (ls [.bool (m.ev), .int .u64 m.eh, .int .u64 m.el]))] (.bool true) (fun _ => by kernel_rfl) (fun w M => call_val (d_MayAddr m.ev m.eh m.el w M.laid) (congrArg Value.bool c4)) fun u16 M => ?_
       refine pl_val (want_on 29 false rfl 122 rfl (by kernel_rfl)) (some 127) rfl (.bool false) (fun _ => by kernel_rfl) ?_
       refine pV 128 (.bool false) ?_
       refine nT ?_
       have e9 : dC4 m = false := by simp [dC4, c0, c1, c2, c3, c4]
       exact ⟨fun k_ => ([.pointer (some ⟨g1, 9, none⟩), .pointer (some ⟨g1, 9, none⟩), .agg (av 3 (ls [.bool (m.ev), .int .u64 m.eh, .int .u64 m.el])), .bool true, .bool false] : List Value).getD (k_ - 123) undef, by rw [e9]; kernel_rfl, M⟩
      ·skip
       refine pl_call M (want_on 29 false rfl 122 rfl (by kernel_rfl)) (some 126) rfl 30 #[.agg (av 3 (ls [.bool (m.ev), .int .u64 m.eh, .int .u64 m.el]))] (.bool false) (fun _ => by kernel_rfl) (fun w M => call_val (d_MayAddr m.ev m.eh m.el w M.laid) (congrArg Value.bool c4)) fun u16 M => ?_
       refine pl_val (want_on 29 false rfl 122 rfl (by kernel_rfl)) (some 127) rfl (.bool true) (fun _ => by kernel_rfl) ?_
       refine pV 128 (.bool true) ?_
       refine nT ?_
       have e9 : dC4 m = true := by simp [dC4, c0, c1, c2, c3, c4]
       exact ⟨fun k_ => ([.pointer (some ⟨g1, 9, none⟩), .pointer (some ⟨g1, 9, none⟩), .agg (av 3 (ls [.bool (m.ev), .int .u64 m.eh, .int .u64 m.el])), .bool false, .bool true] : List Value).getD (k_ - 123) undef, by rw [e9]; kernel_rfl, M⟩
    simp only [List.drop_succ_cons, List.drop_zero]
    intro a u16 hI
    obtain ⟨yv14, rfl, M⟩ := hI
    replace M : Mem ⟨w, []⟩ [⟨g1, .cells (av 17 (ls [.int .u8 m.ty, .string m.fr, .string m.tq, .int .u32 m.ix, .int .u32 m.pe, .int .u64 m.ct, .int .u64 m.ba, .int .u64 m.ve, .string m.tx, .bool (m.ev), .int .u64 m.eh, .int .u64 m.el, .int .u16 m.ep, .int .u16 m.co, .string m.tt, .string m.da, .string m.sg])) 30⟩] u16 := M
    refine nT ?_
    rcases Bool.eq_false_or_eq_true (dC4 m) with c3 | c3
    ·skip
     rw [c3]
     refine wp_cond_true (by kernel_rfl) ?_
     refine sR ?_
     refine pV 2 (.int .i64 151) ?_
     refine nT ?_
     refine wp_ret ?_
     refine au_then_ret ?_
     have e0 : (dE m) = 151 := by simp only [dE, if_neg c0, if_neg (Bool.eq_false_iff.1 c1), if_neg (Bool.eq_false_iff.1 c2), if_pos c3]
     exact bodyPost_ret (v := .int .i64 151) (results_tmp1 Try.results15 _ _ _ (by kernel_rfl)) (by kernel_rfl) ⟨by rw [e0], below_grown M.old⟩
    ·skip
     rw [c3]
     refine wp_cond_false (by kernel_rfl) ?_
     refine wp_skip ?_
     refine au_then ?_
     refine wp_seq ?_
     refine sR ?_
     refine pV 129 (.pointer (some ⟨g1, 14, none⟩)) ?_
     refine pEz M 130 g1 14 (.string m.tt) (fun w M => M.cell 0 rfl (by decide) rfl) ?_
     refine pV 131 (.int .i64 (m.tt.size : Int)) ?_
     by_cases c4 : 64 < (m.tt.size : Int)
     ·skip
      refine pH 132 (.bool true) (dTz (64 < (m.tt.size : Int)) (c4)) ?_
      refine pV 133 (.bool true) ?_
      refine pl_skip (want_off 4 false rfl 133 rfl (by kernel_rfl)) (some 134) rfl ?_
      refine pl_skip (want_off 4 false rfl 133 rfl (by kernel_rfl)) (some 135) rfl ?_
      refine pl_skip (want_off 4 false rfl 133 rfl (by kernel_rfl)) (some 136) rfl ?_
      refine pl_skip (want_off 4 false rfl 133 rfl (by kernel_rfl)) (some 137) rfl ?_
      refine pV 138 (.bool true) ?_
      refine nT ?_
      refine wp_cond_true (by kernel_rfl) ?_
      refine sR ?_
      refine pV 2 (.int .i64 4) ?_
      refine nT ?_
      refine wp_ret ?_
      refine au_then_ret ?_
      have e0 : (dE m) = 4 := by simp only [dE, if_neg c0, if_neg (Bool.eq_false_iff.1 c1), if_neg (Bool.eq_false_iff.1 c2), if_neg (Bool.eq_false_iff.1 c3), if_pos c4]
      exact bodyPost_ret (v := .int .i64 4) (results_tmp1 Try.results15 _ _ _ (by kernel_rfl)) (by kernel_rfl) ⟨by rw [e0], below_grown M.old⟩
     ·skip
      refine pH 132 (.bool false) (dF (64 < (m.tt.size : Int)) (c4)) ?_
      refine pV 133 (.bool false) ?_
      refine pl_val (want_on 4 false rfl 133 rfl (by kernel_rfl)) (some 134) rfl (.pointer (some ⟨g1, 15, none⟩)) (fun _ => by kernel_rfl) ?_
      refine pl_cell M (want_on 4 false rfl 133 rfl (by kernel_rfl)) (some 135) rfl 9 _ rfl g1 15 (by kernel_rfl) (.string m.da) (fun _ => by kernel_rfl) (fun w M => M.cell 0 rfl (by decide) rfl) ?_
      refine pl_val (want_on 4 false rfl 133 rfl (by kernel_rfl)) (some 136) rfl (.int .i64 (m.da.size : Int)) (fun _ => by kernel_rfl) ?_
      by_cases c5 : 32768 < (m.da.size : Int)
      ·skip
       refine pl_val (want_on 4 false rfl 133 rfl (by kernel_rfl)) (some 137) rfl (.bool true) (fun w => Eq.trans (b := .ok (.value (.bool (decide (32768 < (m.da.size : Int))))) w) (by kernel_rfl) (by rw [decide_eq_true (c5)])) ?_
       refine pV 138 (.bool true) ?_
       refine nT ?_
       refine wp_cond_true (by kernel_rfl) ?_
       refine sR ?_
       refine pV 2 (.int .i64 4) ?_
       refine nT ?_
       refine wp_ret ?_
       refine au_then_ret ?_
       have e0 : (dE m) = 4 := by simp only [dE, if_neg c0, if_neg (Bool.eq_false_iff.1 c1), if_neg (Bool.eq_false_iff.1 c2), if_neg (Bool.eq_false_iff.1 c3), if_neg c4, if_pos c5]
       exact bodyPost_ret (v := .int .i64 4) (results_tmp1 Try.results15 _ _ _ (by kernel_rfl)) (by kernel_rfl) ⟨by rw [e0], below_grown M.old⟩
      ·skip
       refine pl_val (want_on 4 false rfl 133 rfl (by kernel_rfl)) (some 137) rfl (.bool false) (fun w => Eq.trans (b := .ok (.value (.bool (decide (32768 < (m.da.size : Int))))) w) (by kernel_rfl) (by rw [decide_eq_false (c5)])) ?_
       refine pV 138 (.bool false) ?_
       refine nT ?_
       refine wp_cond_false (by kernel_rfl) ?_
       refine wp_skip ?_
       refine au_then ?_
       refine sR ?_
       refine pV 2 (.int .i64 0) ?_
       refine nT ?_
       refine wp_ret ?_
       have e0 : (dE m) = 0 := by simp only [dE, if_neg c0, if_neg (Bool.eq_false_iff.1 c1), if_neg (Bool.eq_false_iff.1 c2), if_neg (Bool.eq_false_iff.1 c3), if_neg c4, if_neg c5]
       exact bodyPost_ret (v := .int .i64 0) (results_tmp1 Try.results15 _ _ _ (by kernel_rfl)) (by kernel_rfl) ⟨by rw [e0], below_grown M.old⟩
def deB (v : Bool) (h l p : Int) : ByteArray := if v = true then (((⟨#[6]⟩ : ByteArray) ++ dB v h l) ++ be2 (cv .u64 p)) else (((⟨#[4]⟩ : ByteArray) ++ dB v h l) ++ be2 (cv .u64 p))
def dbF (m : Mg) (c : Int) : ByteArray := if c = 70 then m.fr else if c = 84 then m.tq else if c = 73 then be4 (cv .u64 m.ix) else if c = 80 then be4 (cv .u64 m.pe) else if c = 67 then be8 m.ct else if c = 66 then be8 m.ba else if c = 86 then be8 m.ve else if c = 88 then m.tx else if c = 69 then deB m.ev m.eh m.el m.ep else if c = 75 then be2 (cv .u64 m.co) else if c = 78 then duS m.tt else if c = 68 then duS m.da else m.sg
def dxS (m : Mg) (l : ByteArray) : Nat → ByteArray
 | 0 => bs [m.ty]
 | j + 1 => dxS m l j ++ dbF m (bt l j)
def deO (m : Mg) : ByteArray := if dE m = 0 then dxS m (fdP m.ty) (fdP m.ty).size else ⟨#[]⟩
theorem duS_le (s : ByteArray) : (duS s).size ≤ s.size + 2 := by
 unfold duS
 split
 ·exact Nat.zero_le _
 ·rw [ByteArray.size_append, be2_size]
  omega
theorem deB_le (v : Bool) (h l p : Int) : (deB v h l p).size ≤ 19 := by
 have := dB_le v h l
 unfold deB
 split
 ·rw [ByteArray.size_append, ByteArray.size_append, be2_size]
  show 1 + _ + 2 ≤ 19
  omega
 ·rw [ByteArray.size_append, ByteArray.size_append, be2_size]
  show 1 + _ + 2 ≤ 19
  omega
theorem ite_sz {c : Prop} [Decidable c] {a b : ByteArray} {n : Nat} (ha : a.size ≤ n) (hb : b.size ≤ n) : (if c then a else b).size ≤ n := by
 by_cases h : c
 ·rw [if_pos h]; exact ha
 ·rw [if_neg h]; exact hb
theorem dbF_le {m : Mg} (hm : smM m) (c : Int) : (dbF m c).size ≤ 70019 := by
 obtain ⟨h1, h2, h3, h4, h5, h6⟩ := hm
 have a1 := duS_le m.tt
 have a2 := duS_le m.da
 have a3 := deB_le m.ev m.eh m.el m.ep
 unfold dbF
 repeat refine ite_sz (by first | omega | (rw [be4_size]; decide) | (rw [be8_size]; decide) | (rw [be2_size]; decide)) ?_
 omega
theorem dxS_le {m : Mg} (hm : smM m) (l : ByteArray) : ∀ j, (dxS m l j).size ≤ 1 + j * 70019
 | 0 => by
  show (bs [m.ty]).size ≤ _
  rw [bs_size]
  exact Nat.le_add_right 1 _
 | j + 1 => by
  have h1 := dxS_le hm l j
  have h2 := dbF_le hm (bt l j)
  show (dxS m l j ++ dbF m (bt l j)).size ≤ _
  rw [ByteArray.size_append]
  omega
set_option maxRecDepth 100000 in
set_option maxHeartbeats 4000000 in
set_option linter.unusedSimpArgs false in
theorem d_bytes (m : Mg) (c_ : Int) (hm : smM m) (w : World) (hL : Laid w)  :
  Calls Try.prog 25 #[.agg (av 17 (ls [.int .u8 m.ty, .string m.fr, .string m.tq, .int .u32 m.ix, .int .u32 m.pe, .int .u64 m.ct, .int .u64 m.ba, .int .u64 m.ve, .string m.tx, .bool (m.ev), .int .u64 m.eh, .int .u64 m.el, .int .u16 m.ep, .int .u16 m.co, .string m.tt, .string m.da, .string m.sg])), .int .u8 c_] w fun r w' => r = .returned (.string (dbF m c_)) ∧ Below w.heap.size w w' := by
 go_enter Try.func25, Try.ntmps25
 have M := Mem.start hL
 obtain ⟨hz1, hz2, hz3, hz4, hz5, hz6⟩ := hm
 have hz7 := dB_le m.ev m.eh m.el
 refine sR ?_
 refine pN M 2 (.cells (av 17 (ls [.int .u8 m.ty, .string m.fr, .string m.tq, .int .u32 m.ix, .int .u32 m.pe, .int .u64 m.ct, .int .u64 m.ba, .int .u64 m.ve, .string m.tx, .bool (m.ev), .int .u64 m.eh, .int .u64 m.el, .int .u16 m.ep, .int .u16 m.co, .string m.tt, .string m.da, .string m.sg])) 30) fun g1 u1 M => ?_
 replace M : Mem ⟨w, []⟩ [⟨g1, .cells (av 17 (ls [.int .u8 m.ty, .string m.fr, .string m.tq, .int .u32 m.ix, .int .u32 m.pe, .int .u64 m.ct, .int .u64 m.ba, .int .u64 m.ve, .string m.tx, .bool (m.ev), .int .u64 m.eh, .int .u64 m.el, .int .u16 m.ep, .int .u16 m.co, .string m.tt, .string m.da, .string m.sg])) 30⟩] u1 := M
 refine pV 4 (.string ⟨#[]⟩) ?_
 refine nT ?_
 refine wp_seq ?_
 refine sR ?_
 refine pV 10 (.int .u8 c_) ?_
 refine nT ?_
 refine wp_block ?_
 refine sR ?_
 by_cases c0 : c_ = 70
 ·skip
  refine pH 12 (.bool true) (dTz (c_ = 70) (c0)) ?_
  refine pV 11 (.bool true) ?_
  refine nT ?_
  refine wp_cond_true (by kernel_rfl) ?_
  refine sR ?_
  refine pV 13 (.pointer (some ⟨g1, 1, none⟩)) ?_
  refine pEz M 14 g1 1 (.string m.fr) (fun w M => M.cell 0 rfl (by decide) rfl) ?_
  refine pV 4 (.string m.fr) ?_
  refine nT ?_
  refine wp_ret ?_
  refine au_block_ret ?_
  refine au_then_ret ?_
  have e0 : (dbF m c_) = m.fr := by simp only [dbF, deB, if_pos c0]
  exact bodyPost_ret (v := .string m.fr) (results_tmp1 Try.results25 _ _ _ (by kernel_rfl)) (by kernel_rfl) ⟨by rw [e0], below_grown M.old⟩
 ·skip
  refine pH 12 (.bool false) (dF (c_ = 70) (c0)) ?_
  refine pV 11 (.bool false) ?_
  refine nT ?_
  refine wp_cond_false (by kernel_rfl) ?_
  refine sR ?_
  by_cases c1 : c_ = 84
  ·skip
   refine pH 16 (.bool true) (dTz (c_ = 84) (c1)) ?_
   refine pV 15 (.bool true) ?_
   refine nT ?_
   refine wp_cond_true (by kernel_rfl) ?_
   refine sR ?_
   refine pV 17 (.pointer (some ⟨g1, 2, none⟩)) ?_
   refine pEz M 18 g1 2 (.string m.tq) (fun w M => M.cell 0 rfl (by decide) rfl) ?_
   refine pV 4 (.string m.tq) ?_
   refine nT ?_
   refine wp_ret ?_
   refine au_block_ret ?_
   refine au_then_ret ?_
   have e0 : (dbF m c_) = m.tq := by simp only [dbF, deB, if_neg c0, if_pos c1]
   exact bodyPost_ret (v := .string m.tq) (results_tmp1 Try.results25 _ _ _ (by kernel_rfl)) (by kernel_rfl) ⟨by rw [e0], below_grown M.old⟩
  ·skip
   refine pH 16 (.bool false) (dF (c_ = 84) (c1)) ?_
   refine pV 15 (.bool false) ?_
   refine nT ?_
   refine wp_cond_false (by kernel_rfl) ?_
   refine sR ?_
   by_cases c2 : c_ = 73
   ·skip
    refine pH 20 (.bool true) (dTz (c_ = 73) (c2)) ?_
    refine pV 19 (.bool true) ?_
    refine nT ?_
    refine wp_cond_true (by kernel_rfl) ?_
    refine sR ?_
    refine pV 21 (.pointer (some ⟨g1, 3, none⟩)) ?_
    refine pEz M 22 g1 3 (.int .u32 m.ix) (fun w M => M.cell 0 rfl (by decide) rfl) ?_
    refine pV 23 (.int .u64 (cv .u64 m.ix)) ?_
    refine pC M 24 42 #[.int .u64 (cv .u64 m.ix), .int .i64 4] (.string (be4 (cv .u64 m.ix))) (fun w M => c_num4 (cv .u64 m.ix) w M.laid) fun u2 M => ?_
    refine pV 4 (.string (be4 (cv .u64 m.ix))) ?_
    refine nT ?_
    refine wp_ret ?_
    refine au_block_ret ?_
    refine au_then_ret ?_
    have e0 : (dbF m c_) = (be4 (cv .u64 m.ix)) := by simp only [dbF, deB, if_neg c0, if_neg c1, if_pos c2]
    exact bodyPost_ret (v := .string (be4 (cv .u64 m.ix))) (results_tmp1 Try.results25 _ _ _ (by kernel_rfl)) (by kernel_rfl) ⟨by rw [e0], below_grown M.old⟩
   ·skip
    refine pH 20 (.bool false) (dF (c_ = 73) (c2)) ?_
    refine pV 19 (.bool false) ?_
    refine nT ?_
    refine wp_cond_false (by kernel_rfl) ?_
    refine sR ?_
    by_cases c3 : c_ = 80
    ·skip
     refine pH 26 (.bool true) (dTz (c_ = 80) (c3)) ?_
     refine pV 25 (.bool true) ?_
     refine nT ?_
     refine wp_cond_true (by kernel_rfl) ?_
     refine sR ?_
     refine pV 27 (.pointer (some ⟨g1, 4, none⟩)) ?_
     refine pEz M 28 g1 4 (.int .u32 m.pe) (fun w M => M.cell 0 rfl (by decide) rfl) ?_
     refine pV 29 (.int .u64 (cv .u64 m.pe)) ?_
     refine pC M 30 42 #[.int .u64 (cv .u64 m.pe), .int .i64 4] (.string (be4 (cv .u64 m.pe))) (fun w M => c_num4 (cv .u64 m.pe) w M.laid) fun u2 M => ?_
     refine pV 4 (.string (be4 (cv .u64 m.pe))) ?_
     refine nT ?_
     refine wp_ret ?_
     refine au_block_ret ?_
     refine au_then_ret ?_
     have e0 : (dbF m c_) = (be4 (cv .u64 m.pe)) := by simp only [dbF, deB, if_neg c0, if_neg c1, if_neg c2, if_pos c3]
     exact bodyPost_ret (v := .string (be4 (cv .u64 m.pe))) (results_tmp1 Try.results25 _ _ _ (by kernel_rfl)) (by kernel_rfl) ⟨by rw [e0], below_grown M.old⟩
    ·skip
     refine pH 26 (.bool false) (dF (c_ = 80) (c3)) ?_
     refine pV 25 (.bool false) ?_
     refine nT ?_
     refine wp_cond_false (by kernel_rfl) ?_
     refine sR ?_
     by_cases c4 : c_ = 67
     ·skip
      refine pH 32 (.bool true) (dTz (c_ = 67) (c4)) ?_
      refine pV 31 (.bool true) ?_
      refine nT ?_
      refine wp_cond_true (by kernel_rfl) ?_
      refine sR ?_
      refine pV 33 (.pointer (some ⟨g1, 5, none⟩)) ?_
      refine pEz M 34 g1 5 (.int .u64 m.ct) (fun w M => M.cell 0 rfl (by decide) rfl) ?_
      refine pC M 35 42 #[.int .u64 m.ct, .int .i64 8] (.string (be8 m.ct)) (fun w M => c_num8 m.ct w M.laid) fun u2 M => ?_
      refine pV 4 (.string (be8 m.ct)) ?_
      refine nT ?_
      refine wp_ret ?_
      refine au_block_ret ?_
      refine au_then_ret ?_
      have e0 : (dbF m c_) = (be8 m.ct) := by simp only [dbF, deB, if_neg c0, if_neg c1, if_neg c2, if_neg c3, if_pos c4]
      exact bodyPost_ret (v := .string (be8 m.ct)) (results_tmp1 Try.results25 _ _ _ (by kernel_rfl)) (by kernel_rfl) ⟨by rw [e0], below_grown M.old⟩
     ·skip
      refine pH 32 (.bool false) (dF (c_ = 67) (c4)) ?_
      refine pV 31 (.bool false) ?_
      refine nT ?_
      refine wp_cond_false (by kernel_rfl) ?_
      refine sR ?_
      by_cases c5 : c_ = 66
      ·skip
       refine pH 37 (.bool true) (dTz (c_ = 66) (c5)) ?_
       refine pV 36 (.bool true) ?_
       refine nT ?_
       refine wp_cond_true (by kernel_rfl) ?_
       refine sR ?_
       refine pV 38 (.pointer (some ⟨g1, 6, none⟩)) ?_
       refine pEz M 39 g1 6 (.int .u64 m.ba) (fun w M => M.cell 0 rfl (by decide) rfl) ?_
       refine pC M 40 42 #[.int .u64 m.ba, .int .i64 8] (.string (be8 m.ba)) (fun w M => c_num8 m.ba w M.laid) fun u2 M => ?_
       refine pV 4 (.string (be8 m.ba)) ?_
       refine nT ?_
       refine wp_ret ?_
       refine au_block_ret ?_
       refine au_then_ret ?_
       have e0 : (dbF m c_) = (be8 m.ba) := by simp only [dbF, deB, if_neg c0, if_neg c1, if_neg c2, if_neg c3, if_neg c4, if_pos c5]
       exact bodyPost_ret (v := .string (be8 m.ba)) (results_tmp1 Try.results25 _ _ _ (by kernel_rfl)) (by kernel_rfl) ⟨by rw [e0], below_grown M.old⟩
      ·skip
       refine pH 37 (.bool false) (dF (c_ = 66) (c5)) ?_
       refine pV 36 (.bool false) ?_
       refine nT ?_
       refine wp_cond_false (by kernel_rfl) ?_
       refine sR ?_
       by_cases c6 : c_ = 86
       ·skip
        refine pH 42 (.bool true) (dTz (c_ = 86) (c6)) ?_
        refine pV 41 (.bool true) ?_
        refine nT ?_
        refine wp_cond_true (by kernel_rfl) ?_
        refine sR ?_
        refine pV 43 (.pointer (some ⟨g1, 7, none⟩)) ?_
        refine pEz M 44 g1 7 (.int .u64 m.ve) (fun w M => M.cell 0 rfl (by decide) rfl) ?_
        refine pC M 45 42 #[.int .u64 m.ve, .int .i64 8] (.string (be8 m.ve)) (fun w M => c_num8 m.ve w M.laid) fun u2 M => ?_
        refine pV 4 (.string (be8 m.ve)) ?_
        refine nT ?_
        refine wp_ret ?_
        refine au_block_ret ?_
        refine au_then_ret ?_
        have e0 : (dbF m c_) = (be8 m.ve) := by simp only [dbF, deB, if_neg c0, if_neg c1, if_neg c2, if_neg c3, if_neg c4, if_neg c5, if_pos c6]
        exact bodyPost_ret (v := .string (be8 m.ve)) (results_tmp1 Try.results25 _ _ _ (by kernel_rfl)) (by kernel_rfl) ⟨by rw [e0], below_grown M.old⟩
       ·skip
        refine pH 42 (.bool false) (dF (c_ = 86) (c6)) ?_
        refine pV 41 (.bool false) ?_
        refine nT ?_
        refine wp_cond_false (by kernel_rfl) ?_
        refine sR ?_
        by_cases c7 : c_ = 88
        ·skip
         refine pH 47 (.bool true) (dTz (c_ = 88) (c7)) ?_
         refine pV 46 (.bool true) ?_
         refine nT ?_
         refine wp_cond_true (by kernel_rfl) ?_
         refine sR ?_
         refine pV 48 (.pointer (some ⟨g1, 8, none⟩)) ?_
         refine pEz M 49 g1 8 (.string m.tx) (fun w M => M.cell 0 rfl (by decide) rfl) ?_
         refine pV 4 (.string m.tx) ?_
         refine nT ?_
         refine wp_ret ?_
         refine au_block_ret ?_
         refine au_then_ret ?_
         have e0 : (dbF m c_) = m.tx := by simp only [dbF, deB, if_neg c0, if_neg c1, if_neg c2, if_neg c3, if_neg c4, if_neg c5, if_neg c6, if_pos c7]
         exact bodyPost_ret (v := .string m.tx) (results_tmp1 Try.results25 _ _ _ (by kernel_rfl)) (by kernel_rfl) ⟨by rw [e0], below_grown M.old⟩
        ·skip
         refine pH 47 (.bool false) (dF (c_ = 88) (c7)) ?_
         refine pV 46 (.bool false) ?_
         refine nT ?_
         refine wp_cond_false (by kernel_rfl) ?_
         refine sR ?_
         by_cases c8 : c_ = 69
         ·skip
          refine pH 51 (.bool true) (dTz (c_ = 69) (c8)) ?_
          refine pV 50 (.bool true) ?_
          refine nT ?_
          refine wp_cond_true (by kernel_rfl) ?_
          refine sR ?_
          refine pV 5 (.string ⟨#[4]⟩) ?_
          refine nT ?_
          refine wp_seq ?_
          refine sR ?_
          refine pV 52 (.pointer (some ⟨g1, 9, none⟩)) ?_
          refine pV 53 (.pointer (some ⟨g1, 9, none⟩)) ?_
          refine pV 54 (.pointer (some ⟨g1, 9, none⟩)) ?_
          rcases Bool.eq_false_or_eq_true (m.ev) with c9 | c9
          ·skip
           refine pEz M 55 g1 9 (.bool true) (fun w M => M.cell 0 rfl (by decide) (congrArg Value.bool c9)) ?_
           refine nT ?_
           refine wp_cond_true (by kernel_rfl) ?_
           refine rg_lit ?_
           refine pV 5 (.string ⟨#[6]⟩) ?_
           refine nT ?_
           refine wp_seq ?_
           refine rg_held M [⟨g1, .cells (av 17 (ls [.int .u8 m.ty, .string m.fr, .string m.tq, .int .u32 m.ix, .int .u32 m.pe, .int .u64 m.ct, .int .u64 m.ba, .int .u64 m.ve, .string m.tx, .bool (m.ev), .int .u64 m.eh, .int .u64 m.el, .int .u16 m.ep, .int .u16 m.co, .string m.tt, .string m.da, .string m.sg])) 30⟩] 12 rfl (by kernel_rfl) (by kernel_rfl) (fun _ _ d _ _ h => by cases d <;> exact h) fun u2 M => ?_
           replace M : Mem ⟨w, []⟩ [⟨g1, .cells (av 17 (ls [.int .u8 m.ty, .string m.fr, .string m.tq, .int .u32 m.ix, .int .u32 m.pe, .int .u64 m.ct, .int .u64 m.ba, .int .u64 m.ve, .string m.tx, .bool (m.ev), .int .u64 m.eh, .int .u64 m.el, .int .u16 m.ep, .int .u16 m.co, .string m.tt, .string m.da, .string m.sg])) 30⟩] u2 := M
           refine qV M 0 56 (.string ⟨#[6]⟩) ?_
           refine qV M 1 57 (.pointer (some ⟨g1, 9, none⟩)) ?_
           refine qV M 2 58 (.pointer (some ⟨g1, 9, none⟩)) ?_
           refine hl_load M 3 rfl (by decide) (by kernel_rfl) (by kernel_rfl) (want_no rfl) (some 59) rfl 25 _ rfl 0 g1 9 (by kernel_rfl) 17 30 (ls [.int .u8 m.ty, .string m.fr, .string m.tq, .int .u32 m.ix, .int .u32 m.pe, .int .u64 m.ct, .int .u64 m.ba, .int .u64 m.ve, .string m.tx, .bool (m.ev), .int .u64 m.eh, .int .u64 m.el, .int .u16 m.ep, .int .u16 m.co, .string m.tt, .string m.da, .string m.sg]) rfl 3 (ls [.bool (m.ev), .int .u64 m.eh, .int .u64 m.el]) (part_ls _ 9 3 _ rfl) (by decide) _ Try.underlying25 rfl inz25 ?_
           refine qV M 6 62 (.pointer (some ⟨g1, 9, none⟩)) ?_
           refine qV M 7 63 (.pointer (some ⟨g1, 12, none⟩)) ?_
           refine hl_cell M 8 rfl (by decide) (by kernel_rfl) (by kernel_rfl) (want_no rfl) (some 64) rfl 26 _ rfl g1 12 (by kernel_rfl) (.int .u16 m.ep) (fun _ => by kernel_rfl) (fun w M => M.cell 0 rfl (by decide) rfl) ?_
           refine qV M 9 65 (.int .u64 (cv .u64 m.ep)) ?_
           refine hl_name ?_
           intro H hA hB
           have s2 : ∀ (a : Act) (l : Array Bool) (w0 : World), a = ⟨#[.agg (av 17 (ls [.int .u8 m.ty, .string m.fr, .string m.tq, .int .u32 m.ix, .int .u32 m.pe, .int .u64 m.ct, .int .u64 m.ba, .int .u64 m.ve, .string m.tx, .bool (m.ev), .int .u64 m.eh, .int .u64 m.el, .int .u16 m.ep, .int .u16 m.co, .string m.tt, .string m.da, .string m.sg])), .int .u8 c_, .pointer (some ⟨g1, 0, none⟩), undef, .string ⟨#[]⟩, .string ⟨#[6]⟩, undef, undef, undef, undef, .int .u8 c_, .bool false, .bool false, undef, undef, .bool false, .bool false, undef, undef, .bool false, .bool false, undef, undef, undef, undef, .bool false, .bool false, undef, undef, undef, undef, .bool false, .bool false, undef, undef, undef, .bool false, .bool false, undef, undef, undef, .bool false, .bool false, undef, undef, undef, .bool false, .bool false, undef, undef, .bool true, .bool true, .pointer (some ⟨g1, 9, none⟩), .pointer (some ⟨g1, 9, none⟩), .pointer (some ⟨g1, 9, none⟩), .bool true, .string ⟨#[6]⟩, .pointer (some ⟨g1, 9, none⟩), .pointer (some ⟨g1, 9, none⟩), .agg (av 3 (ls [.bool (m.ev), .int .u64 m.eh, .int .u64 m.el])), .string (dB m.ev m.eh m.el), .string ((⟨#[6]⟩ : ByteArray) ++ (dB m.ev m.eh m.el)), .pointer (some ⟨g1, 9, none⟩), .pointer (some ⟨g1, 12, none⟩), .int .u16 m.ep, .int .u64 (cv .u64 m.ep), .string (be2 (cv .u64 m.ep)), .string (((⟨#[6]⟩ : ByteArray) ++ (dB m.ev m.eh m.el)) ++ (be2 (cv .u64 m.ep))), undef, undef, undef, undef, undef, undef, undef, undef, undef, undef, undef, undef, undef, undef, undef, undef, undef, undef, undef, undef, undef, undef, undef, undef, undef, undef], []⟩ → l = #[true, true, true, true, true, true, true, true, true, true, true, true, false] → Mem ⟨w, []⟩ [⟨g1, .cells (av 17 (ls [.int .u8 m.ty, .string m.fr, .string m.tq, .int .u32 m.ix, .int .u32 m.pe, .int .u64 m.ct, .int .u64 m.ba, .int .u64 m.ve, .string m.tx, .bool (m.ev), .int .u64 m.eh, .int .u64 m.el, .int .u16 m.ep, .int .u16 m.co, .string m.tt, .string m.da, .string m.sg])) 30⟩] w0 → H 1 l a w0 := by
            intro a l   u0 ha hl M
            subst ha hl
            refine hB _ _ _ _ ?_
            refine hl_end (by kernel_rfl) (by kernel_rfl) rfl ?_
            refine pV 4 (.string (((⟨#[6]⟩ : ByteArray) ++ (dB m.ev m.eh m.el)) ++ (be2 (cv .u64 m.ep)))) ?_
            refine nT ?_
            refine au_then ?_
            refine wp_ret ?_
            refine au_block_ret ?_
            refine au_then_ret ?_
            have e0 : (dbF m c_) = (((⟨#[6]⟩ : ByteArray) ++ (dB m.ev m.eh m.el)) ++ (be2 (cv .u64 m.ep))) := by simp only [dbF, deB, if_neg c0, if_neg c1, if_neg c2, if_neg c3, if_neg c4, if_neg c5, if_neg c6, if_neg c7, if_pos c8, if_pos c9]
            exact bodyPost_ret (v := .string (((⟨#[6]⟩ : ByteArray) ++ (dB m.ev m.eh m.el)) ++ (be2 (cv .u64 m.ep)))) (results_tmp1 Try.results25 _ _ _ (by kernel_rfl)) (by kernel_rfl) ⟨by rw [e0], below_grown M.old⟩
           have s1 : ∀ (a : Act) (l : Array Bool) (w0 : World), a = ⟨#[.agg (av 17 (ls [.int .u8 m.ty, .string m.fr, .string m.tq, .int .u32 m.ix, .int .u32 m.pe, .int .u64 m.ct, .int .u64 m.ba, .int .u64 m.ve, .string m.tx, .bool (m.ev), .int .u64 m.eh, .int .u64 m.el, .int .u16 m.ep, .int .u16 m.co, .string m.tt, .string m.da, .string m.sg])), .int .u8 c_, .pointer (some ⟨g1, 0, none⟩), undef, .string ⟨#[]⟩, .string ⟨#[6]⟩, undef, undef, undef, undef, .int .u8 c_, .bool false, .bool false, undef, undef, .bool false, .bool false, undef, undef, .bool false, .bool false, undef, undef, undef, undef, .bool false, .bool false, undef, undef, undef, undef, .bool false, .bool false, undef, undef, undef, .bool false, .bool false, undef, undef, undef, .bool false, .bool false, undef, undef, undef, .bool false, .bool false, undef, undef, .bool true, .bool true, .pointer (some ⟨g1, 9, none⟩), .pointer (some ⟨g1, 9, none⟩), .pointer (some ⟨g1, 9, none⟩), .bool true, .string ⟨#[6]⟩, .pointer (some ⟨g1, 9, none⟩), .pointer (some ⟨g1, 9, none⟩), .agg (av 3 (ls [.bool (m.ev), .int .u64 m.eh, .int .u64 m.el])), .string (dB m.ev m.eh m.el), .string ((⟨#[6]⟩ : ByteArray) ++ (dB m.ev m.eh m.el)), .pointer (some ⟨g1, 9, none⟩), .pointer (some ⟨g1, 12, none⟩), .int .u16 m.ep, .int .u64 (cv .u64 m.ep), undef, undef, undef, undef, undef, undef, undef, undef, undef, undef, undef, undef, undef, undef, undef, undef, undef, undef, undef, undef, undef, undef, undef, undef, undef, undef, undef, undef], []⟩ → l = #[true, true, true, true, true, true, true, true, true, true, false, false, false] → Mem ⟨w, []⟩ [⟨g1, .cells (av 17 (ls [.int .u8 m.ty, .string m.fr, .string m.tq, .int .u32 m.ix, .int .u32 m.pe, .int .u64 m.ct, .int .u64 m.ba, .int .u64 m.ve, .string m.tx, .bool (m.ev), .int .u64 m.eh, .int .u64 m.el, .int .u16 m.ep, .int .u16 m.co, .string m.tt, .string m.da, .string m.sg])) 30⟩] w0 → H 3 l a w0 := by
            intro a l   u0 ha hl M
            subst ha hl
            refine hB _ _ _ _ ?_
            refine hl_one 10 (by decide) (by kernel_rfl) rfl ?_
            refine pC M 66 42 #[.int .u64 (cv .u64 m.ep), .int .i64 2] (.string (be2 (cv .u64 m.ep))) (fun w M => c_num2 (cv .u64 m.ep) w M.laid) fun u4 M => ?_
            refine nT ?_
            refine ⟨M, ?_⟩
            refine hl_val M 11 rfl (by decide) (by kernel_rfl) (by kernel_rfl) (want_no rfl) (some 67) rfl (.string (((⟨#[6]⟩ : ByteArray) ++ (dB m.ev m.eh m.el)) ++ (be2 (cv .u64 m.ep)))) (fun w _ => (run_cat 9 9 _ _ rfl ((⟨#[6]⟩ : ByteArray) ++ (dB m.ev m.eh m.el)) (be2 (cv .u64 m.ep)) (by kernel_rfl) (by kernel_rfl) (by (try simp only [ByteArray.size_append, ByteArray.size_extract, be2_size, be4_size, be8_size, bs_size, sz_mk, List.size_toArray, List.length_cons, List.length_nil]); omega)) w) ?_
            exact hA _ _ _ _ (s2 _ _  _ (by kernel_rfl) (by kernel_rfl) M)
           have s0 : ∀ (a : Act) (l : Array Bool) (w0 : World), a = ⟨#[.agg (av 17 (ls [.int .u8 m.ty, .string m.fr, .string m.tq, .int .u32 m.ix, .int .u32 m.pe, .int .u64 m.ct, .int .u64 m.ba, .int .u64 m.ve, .string m.tx, .bool (m.ev), .int .u64 m.eh, .int .u64 m.el, .int .u16 m.ep, .int .u16 m.co, .string m.tt, .string m.da, .string m.sg])), .int .u8 c_, .pointer (some ⟨g1, 0, none⟩), undef, .string ⟨#[]⟩, .string ⟨#[6]⟩, undef, undef, undef, undef, .int .u8 c_, .bool false, .bool false, undef, undef, .bool false, .bool false, undef, undef, .bool false, .bool false, undef, undef, undef, undef, .bool false, .bool false, undef, undef, undef, undef, .bool false, .bool false, undef, undef, undef, .bool false, .bool false, undef, undef, undef, .bool false, .bool false, undef, undef, undef, .bool false, .bool false, undef, undef, .bool true, .bool true, .pointer (some ⟨g1, 9, none⟩), .pointer (some ⟨g1, 9, none⟩), .pointer (some ⟨g1, 9, none⟩), .bool true, .string ⟨#[6]⟩, .pointer (some ⟨g1, 9, none⟩), .pointer (some ⟨g1, 9, none⟩), .agg (av 3 (ls [.bool (m.ev), .int .u64 m.eh, .int .u64 m.el])), undef, undef, .pointer (some ⟨g1, 9, none⟩), .pointer (some ⟨g1, 12, none⟩), .int .u16 m.ep, .int .u64 (cv .u64 m.ep), undef, undef, undef, undef, undef, undef, undef, undef, undef, undef, undef, undef, undef, undef, undef, undef, undef, undef, undef, undef, undef, undef, undef, undef, undef, undef, undef, undef], []⟩ → l = #[true, true, true, true, false, false, true, true, true, true, false, false, false] → Mem ⟨w, []⟩ [⟨g1, .cells (av 17 (ls [.int .u8 m.ty, .string m.fr, .string m.tq, .int .u32 m.ix, .int .u32 m.pe, .int .u64 m.ct, .int .u64 m.ba, .int .u64 m.ve, .string m.tx, .bool (m.ev), .int .u64 m.eh, .int .u64 m.el, .int .u16 m.ep, .int .u16 m.co, .string m.tt, .string m.da, .string m.sg])) 30⟩] w0 → H 5 l a w0 := by
            intro a l   u0 ha hl M
            subst ha hl
            refine hB _ _ _ _ ?_
            refine hl_one 4 (by decide) (by kernel_rfl) rfl ?_
            refine pC M 60 43 #[.agg (av 3 (ls [.bool (m.ev), .int .u64 m.eh, .int .u64 m.el]))] (.string (dB m.ev m.eh m.el)) (fun w M => d_Bytes m.ev m.eh m.el w M.laid) fun u3 M => ?_
            refine nT ?_
            refine ⟨M, ?_⟩
            refine hl_val M 5 rfl (by decide) (by kernel_rfl) (by kernel_rfl) (want_no rfl) (some 61) rfl (.string ((⟨#[6]⟩ : ByteArray) ++ (dB m.ev m.eh m.el))) (fun w _ => (run_cat 9 9 _ _ rfl ⟨#[6]⟩ (dB m.ev m.eh m.el) (by kernel_rfl) (by kernel_rfl) (by (try simp only [ByteArray.size_append, ByteArray.size_extract, be2_size, be4_size, be8_size, bs_size, sz_mk, List.size_toArray, List.length_cons, List.length_nil]); omega)) w) ?_
            exact hA _ _ _ _ (s1 _ _  _ (by kernel_rfl) (by kernel_rfl) M)
           exact s0 _ _  _ (by kernel_rfl) (by kernel_rfl) M
          ·skip
           refine pEz M 55 g1 9 (.bool false) (fun w M => M.cell 0 rfl (by decide) (congrArg Value.bool c9)) ?_
           refine nT ?_
           refine wp_cond_false (by kernel_rfl) ?_
           refine wp_skip ?_
           refine au_then ?_
           refine wp_seq ?_
           refine rg_held M [⟨g1, .cells (av 17 (ls [.int .u8 m.ty, .string m.fr, .string m.tq, .int .u32 m.ix, .int .u32 m.pe, .int .u64 m.ct, .int .u64 m.ba, .int .u64 m.ve, .string m.tx, .bool (m.ev), .int .u64 m.eh, .int .u64 m.el, .int .u16 m.ep, .int .u16 m.co, .string m.tt, .string m.da, .string m.sg])) 30⟩] 12 rfl (by kernel_rfl) (by kernel_rfl) (fun _ _ d _ _ h => by cases d <;> exact h) fun u2 M => ?_
           replace M : Mem ⟨w, []⟩ [⟨g1, .cells (av 17 (ls [.int .u8 m.ty, .string m.fr, .string m.tq, .int .u32 m.ix, .int .u32 m.pe, .int .u64 m.ct, .int .u64 m.ba, .int .u64 m.ve, .string m.tx, .bool (m.ev), .int .u64 m.eh, .int .u64 m.el, .int .u16 m.ep, .int .u16 m.co, .string m.tt, .string m.da, .string m.sg])) 30⟩] u2 := M
           refine qV M 0 56 (.string ⟨#[4]⟩) ?_
           refine qV M 1 57 (.pointer (some ⟨g1, 9, none⟩)) ?_
           refine qV M 2 58 (.pointer (some ⟨g1, 9, none⟩)) ?_
           refine hl_load M 3 rfl (by decide) (by kernel_rfl) (by kernel_rfl) (want_no rfl) (some 59) rfl 25 _ rfl 0 g1 9 (by kernel_rfl) 17 30 (ls [.int .u8 m.ty, .string m.fr, .string m.tq, .int .u32 m.ix, .int .u32 m.pe, .int .u64 m.ct, .int .u64 m.ba, .int .u64 m.ve, .string m.tx, .bool (m.ev), .int .u64 m.eh, .int .u64 m.el, .int .u16 m.ep, .int .u16 m.co, .string m.tt, .string m.da, .string m.sg]) rfl 3 (ls [.bool (m.ev), .int .u64 m.eh, .int .u64 m.el]) (part_ls _ 9 3 _ rfl) (by decide) _ Try.underlying25 rfl inz25 ?_
           refine qV M 6 62 (.pointer (some ⟨g1, 9, none⟩)) ?_
           refine qV M 7 63 (.pointer (some ⟨g1, 12, none⟩)) ?_
           refine hl_cell M 8 rfl (by decide) (by kernel_rfl) (by kernel_rfl) (want_no rfl) (some 64) rfl 26 _ rfl g1 12 (by kernel_rfl) (.int .u16 m.ep) (fun _ => by kernel_rfl) (fun w M => M.cell 0 rfl (by decide) rfl) ?_
           refine qV M 9 65 (.int .u64 (cv .u64 m.ep)) ?_
           refine hl_name ?_
           intro H hA hB
           have s2 : ∀ (a : Act) (l : Array Bool) (w0 : World), a = ⟨#[.agg (av 17 (ls [.int .u8 m.ty, .string m.fr, .string m.tq, .int .u32 m.ix, .int .u32 m.pe, .int .u64 m.ct, .int .u64 m.ba, .int .u64 m.ve, .string m.tx, .bool (m.ev), .int .u64 m.eh, .int .u64 m.el, .int .u16 m.ep, .int .u16 m.co, .string m.tt, .string m.da, .string m.sg])), .int .u8 c_, .pointer (some ⟨g1, 0, none⟩), undef, .string ⟨#[]⟩, .string ⟨#[4]⟩, undef, undef, undef, undef, .int .u8 c_, .bool false, .bool false, undef, undef, .bool false, .bool false, undef, undef, .bool false, .bool false, undef, undef, undef, undef, .bool false, .bool false, undef, undef, undef, undef, .bool false, .bool false, undef, undef, undef, .bool false, .bool false, undef, undef, undef, .bool false, .bool false, undef, undef, undef, .bool false, .bool false, undef, undef, .bool true, .bool true, .pointer (some ⟨g1, 9, none⟩), .pointer (some ⟨g1, 9, none⟩), .pointer (some ⟨g1, 9, none⟩), .bool false, .string ⟨#[4]⟩, .pointer (some ⟨g1, 9, none⟩), .pointer (some ⟨g1, 9, none⟩), .agg (av 3 (ls [.bool (m.ev), .int .u64 m.eh, .int .u64 m.el])), .string (dB m.ev m.eh m.el), .string ((⟨#[4]⟩ : ByteArray) ++ (dB m.ev m.eh m.el)), .pointer (some ⟨g1, 9, none⟩), .pointer (some ⟨g1, 12, none⟩), .int .u16 m.ep, .int .u64 (cv .u64 m.ep), .string (be2 (cv .u64 m.ep)), .string (((⟨#[4]⟩ : ByteArray) ++ (dB m.ev m.eh m.el)) ++ (be2 (cv .u64 m.ep))), undef, undef, undef, undef, undef, undef, undef, undef, undef, undef, undef, undef, undef, undef, undef, undef, undef, undef, undef, undef, undef, undef, undef, undef, undef, undef], []⟩ → l = #[true, true, true, true, true, true, true, true, true, true, true, true, false] → Mem ⟨w, []⟩ [⟨g1, .cells (av 17 (ls [.int .u8 m.ty, .string m.fr, .string m.tq, .int .u32 m.ix, .int .u32 m.pe, .int .u64 m.ct, .int .u64 m.ba, .int .u64 m.ve, .string m.tx, .bool (m.ev), .int .u64 m.eh, .int .u64 m.el, .int .u16 m.ep, .int .u16 m.co, .string m.tt, .string m.da, .string m.sg])) 30⟩] w0 → H 1 l a w0 := by
            intro a l   u0 ha hl M
            subst ha hl
            refine hB _ _ _ _ ?_
            refine hl_end (by kernel_rfl) (by kernel_rfl) rfl ?_
            refine pV 4 (.string (((⟨#[4]⟩ : ByteArray) ++ (dB m.ev m.eh m.el)) ++ (be2 (cv .u64 m.ep)))) ?_
            refine nT ?_
            refine au_then ?_
            refine wp_ret ?_
            refine au_block_ret ?_
            refine au_then_ret ?_
            have e0 : (dbF m c_) = (((⟨#[4]⟩ : ByteArray) ++ (dB m.ev m.eh m.el)) ++ (be2 (cv .u64 m.ep))) := by simp only [dbF, deB, if_neg c0, if_neg c1, if_neg c2, if_neg c3, if_neg c4, if_neg c5, if_neg c6, if_neg c7, if_pos c8, if_neg (Bool.eq_false_iff.1 c9)]
            exact bodyPost_ret (v := .string (((⟨#[4]⟩ : ByteArray) ++ (dB m.ev m.eh m.el)) ++ (be2 (cv .u64 m.ep)))) (results_tmp1 Try.results25 _ _ _ (by kernel_rfl)) (by kernel_rfl) ⟨by rw [e0], below_grown M.old⟩
           have s1 : ∀ (a : Act) (l : Array Bool) (w0 : World), a = ⟨#[.agg (av 17 (ls [.int .u8 m.ty, .string m.fr, .string m.tq, .int .u32 m.ix, .int .u32 m.pe, .int .u64 m.ct, .int .u64 m.ba, .int .u64 m.ve, .string m.tx, .bool (m.ev), .int .u64 m.eh, .int .u64 m.el, .int .u16 m.ep, .int .u16 m.co, .string m.tt, .string m.da, .string m.sg])), .int .u8 c_, .pointer (some ⟨g1, 0, none⟩), undef, .string ⟨#[]⟩, .string ⟨#[4]⟩, undef, undef, undef, undef, .int .u8 c_, .bool false, .bool false, undef, undef, .bool false, .bool false, undef, undef, .bool false, .bool false, undef, undef, undef, undef, .bool false, .bool false, undef, undef, undef, undef, .bool false, .bool false, undef, undef, undef, .bool false, .bool false, undef, undef, undef, .bool false, .bool false, undef, undef, undef, .bool false, .bool false, undef, undef, .bool true, .bool true, .pointer (some ⟨g1, 9, none⟩), .pointer (some ⟨g1, 9, none⟩), .pointer (some ⟨g1, 9, none⟩), .bool false, .string ⟨#[4]⟩, .pointer (some ⟨g1, 9, none⟩), .pointer (some ⟨g1, 9, none⟩), .agg (av 3 (ls [.bool (m.ev), .int .u64 m.eh, .int .u64 m.el])), .string (dB m.ev m.eh m.el), .string ((⟨#[4]⟩ : ByteArray) ++ (dB m.ev m.eh m.el)), .pointer (some ⟨g1, 9, none⟩), .pointer (some ⟨g1, 12, none⟩), .int .u16 m.ep, .int .u64 (cv .u64 m.ep), undef, undef, undef, undef, undef, undef, undef, undef, undef, undef, undef, undef, undef, undef, undef, undef, undef, undef, undef, undef, undef, undef, undef, undef, undef, undef, undef, undef], []⟩ → l = #[true, true, true, true, true, true, true, true, true, true, false, false, false] → Mem ⟨w, []⟩ [⟨g1, .cells (av 17 (ls [.int .u8 m.ty, .string m.fr, .string m.tq, .int .u32 m.ix, .int .u32 m.pe, .int .u64 m.ct, .int .u64 m.ba, .int .u64 m.ve, .string m.tx, .bool (m.ev), .int .u64 m.eh, .int .u64 m.el, .int .u16 m.ep, .int .u16 m.co, .string m.tt, .string m.da, .string m.sg])) 30⟩] w0 → H 3 l a w0 := by
            intro a l   u0 ha hl M
            subst ha hl
            refine hB _ _ _ _ ?_
            refine hl_one 10 (by decide) (by kernel_rfl) rfl ?_
            refine pC M 66 42 #[.int .u64 (cv .u64 m.ep), .int .i64 2] (.string (be2 (cv .u64 m.ep))) (fun w M => c_num2 (cv .u64 m.ep) w M.laid) fun u4 M => ?_
            refine nT ?_
            refine ⟨M, ?_⟩
            refine hl_val M 11 rfl (by decide) (by kernel_rfl) (by kernel_rfl) (want_no rfl) (some 67) rfl (.string (((⟨#[4]⟩ : ByteArray) ++ (dB m.ev m.eh m.el)) ++ (be2 (cv .u64 m.ep)))) (fun w _ => (run_cat 9 9 _ _ rfl ((⟨#[4]⟩ : ByteArray) ++ (dB m.ev m.eh m.el)) (be2 (cv .u64 m.ep)) (by kernel_rfl) (by kernel_rfl) (by (try simp only [ByteArray.size_append, ByteArray.size_extract, be2_size, be4_size, be8_size, bs_size, sz_mk, List.size_toArray, List.length_cons, List.length_nil]); omega)) w) ?_
            exact hA _ _ _ _ (s2 _ _  _ (by kernel_rfl) (by kernel_rfl) M)
           have s0 : ∀ (a : Act) (l : Array Bool) (w0 : World), a = ⟨#[.agg (av 17 (ls [.int .u8 m.ty, .string m.fr, .string m.tq, .int .u32 m.ix, .int .u32 m.pe, .int .u64 m.ct, .int .u64 m.ba, .int .u64 m.ve, .string m.tx, .bool (m.ev), .int .u64 m.eh, .int .u64 m.el, .int .u16 m.ep, .int .u16 m.co, .string m.tt, .string m.da, .string m.sg])), .int .u8 c_, .pointer (some ⟨g1, 0, none⟩), undef, .string ⟨#[]⟩, .string ⟨#[4]⟩, undef, undef, undef, undef, .int .u8 c_, .bool false, .bool false, undef, undef, .bool false, .bool false, undef, undef, .bool false, .bool false, undef, undef, undef, undef, .bool false, .bool false, undef, undef, undef, undef, .bool false, .bool false, undef, undef, undef, .bool false, .bool false, undef, undef, undef, .bool false, .bool false, undef, undef, undef, .bool false, .bool false, undef, undef, .bool true, .bool true, .pointer (some ⟨g1, 9, none⟩), .pointer (some ⟨g1, 9, none⟩), .pointer (some ⟨g1, 9, none⟩), .bool false, .string ⟨#[4]⟩, .pointer (some ⟨g1, 9, none⟩), .pointer (some ⟨g1, 9, none⟩), .agg (av 3 (ls [.bool (m.ev), .int .u64 m.eh, .int .u64 m.el])), undef, undef, .pointer (some ⟨g1, 9, none⟩), .pointer (some ⟨g1, 12, none⟩), .int .u16 m.ep, .int .u64 (cv .u64 m.ep), undef, undef, undef, undef, undef, undef, undef, undef, undef, undef, undef, undef, undef, undef, undef, undef, undef, undef, undef, undef, undef, undef, undef, undef, undef, undef, undef, undef], []⟩ → l = #[true, true, true, true, false, false, true, true, true, true, false, false, false] → Mem ⟨w, []⟩ [⟨g1, .cells (av 17 (ls [.int .u8 m.ty, .string m.fr, .string m.tq, .int .u32 m.ix, .int .u32 m.pe, .int .u64 m.ct, .int .u64 m.ba, .int .u64 m.ve, .string m.tx, .bool (m.ev), .int .u64 m.eh, .int .u64 m.el, .int .u16 m.ep, .int .u16 m.co, .string m.tt, .string m.da, .string m.sg])) 30⟩] w0 → H 5 l a w0 := by
            intro a l   u0 ha hl M
            subst ha hl
            refine hB _ _ _ _ ?_
            refine hl_one 4 (by decide) (by kernel_rfl) rfl ?_
            refine pC M 60 43 #[.agg (av 3 (ls [.bool (m.ev), .int .u64 m.eh, .int .u64 m.el]))] (.string (dB m.ev m.eh m.el)) (fun w M => d_Bytes m.ev m.eh m.el w M.laid) fun u3 M => ?_
            refine nT ?_
            refine ⟨M, ?_⟩
            refine hl_val M 5 rfl (by decide) (by kernel_rfl) (by kernel_rfl) (want_no rfl) (some 61) rfl (.string ((⟨#[4]⟩ : ByteArray) ++ (dB m.ev m.eh m.el))) (fun w _ => (run_cat 9 9 _ _ rfl ⟨#[4]⟩ (dB m.ev m.eh m.el) (by kernel_rfl) (by kernel_rfl) (by (try simp only [ByteArray.size_append, ByteArray.size_extract, be2_size, be4_size, be8_size, bs_size, sz_mk, List.size_toArray, List.length_cons, List.length_nil]); omega)) w) ?_
            exact hA _ _ _ _ (s1 _ _  _ (by kernel_rfl) (by kernel_rfl) M)
           exact s0 _ _  _ (by kernel_rfl) (by kernel_rfl) M
         ·skip
          refine pH 51 (.bool false) (dF (c_ = 69) (c8)) ?_
          refine pV 50 (.bool false) ?_
          refine nT ?_
          refine wp_cond_false (by kernel_rfl) ?_
          refine sR ?_
          by_cases c9 : c_ = 75
          ·skip
           refine pH 69 (.bool true) (dTz (c_ = 75) (c9)) ?_
           refine pV 68 (.bool true) ?_
           refine nT ?_
           refine wp_cond_true (by kernel_rfl) ?_
           refine sR ?_
           refine pV 70 (.pointer (some ⟨g1, 13, none⟩)) ?_
           refine pEz M 71 g1 13 (.int .u16 m.co) (fun w M => M.cell 0 rfl (by decide) rfl) ?_
           refine pV 72 (.int .u64 (cv .u64 m.co)) ?_
           refine pC M 73 42 #[.int .u64 (cv .u64 m.co), .int .i64 2] (.string (be2 (cv .u64 m.co))) (fun w M => c_num2 (cv .u64 m.co) w M.laid) fun u2 M => ?_
           refine pV 4 (.string (be2 (cv .u64 m.co))) ?_
           refine nT ?_
           refine wp_ret ?_
           refine au_block_ret ?_
           refine au_then_ret ?_
           have e0 : (dbF m c_) = (be2 (cv .u64 m.co)) := by simp only [dbF, deB, if_neg c0, if_neg c1, if_neg c2, if_neg c3, if_neg c4, if_neg c5, if_neg c6, if_neg c7, if_neg c8, if_pos c9]
           exact bodyPost_ret (v := .string (be2 (cv .u64 m.co))) (results_tmp1 Try.results25 _ _ _ (by kernel_rfl)) (by kernel_rfl) ⟨by rw [e0], below_grown M.old⟩
          ·skip
           refine pH 69 (.bool false) (dF (c_ = 75) (c9)) ?_
           refine pV 68 (.bool false) ?_
           refine nT ?_
           refine wp_cond_false (by kernel_rfl) ?_
           refine sR ?_
           by_cases c10 : c_ = 78
           ·skip
            refine pH 75 (.bool true) (dTz (c_ = 78) (c10)) ?_
            refine pV 74 (.bool true) ?_
            refine nT ?_
            refine wp_cond_true (by kernel_rfl) ?_
            refine sR ?_
            refine pV 77 (.pointer (some ⟨g1, 14, none⟩)) ?_
            refine pEz M 78 g1 14 (.string m.tt) (fun w M => M.cell 0 rfl (by decide) rfl) ?_
            refine pC M 79 44 #[.string m.tt] (.tuple #[.string (duS m.tt), .int .i64 (wtE m.tt)]) (fun w M => d_WText m.tt (by omega) w M.laid) fun u2 M => ?_
            refine pV 76 (.tuple #[.string (duS m.tt), .int .i64 (wtE m.tt)]) ?_
            refine pV 80 (.string (duS m.tt)) ?_
            refine pV 81 (.int .i64 (wtE m.tt)) ?_
            refine pV 6 (.string (duS m.tt)) ?_
            refine pV 7 (.int .i64 (wtE m.tt)) ?_
            refine nT ?_
            refine sR ?_
            refine pV 82 (.string (duS m.tt)) ?_
            refine pV 4 (.string (duS m.tt)) ?_
            refine nT ?_
            refine wp_ret ?_
            refine au_block_ret ?_
            refine au_then_ret ?_
            have e0 : (dbF m c_) = (duS m.tt) := by simp only [dbF, deB, if_neg c0, if_neg c1, if_neg c2, if_neg c3, if_neg c4, if_neg c5, if_neg c6, if_neg c7, if_neg c8, if_neg c9, if_pos c10]
            exact bodyPost_ret (v := .string (duS m.tt)) (results_tmp1 Try.results25 _ _ _ (by kernel_rfl)) (by kernel_rfl) ⟨by rw [e0], below_grown M.old⟩
           ·skip
            refine pH 75 (.bool false) (dF (c_ = 78) (c10)) ?_
            refine pV 74 (.bool false) ?_
            refine nT ?_
            refine wp_cond_false (by kernel_rfl) ?_
            refine sR ?_
            by_cases c11 : c_ = 68
            ·skip
             refine pH 84 (.bool true) (dTz (c_ = 68) (c11)) ?_
             refine pV 83 (.bool true) ?_
             refine nT ?_
             refine wp_cond_true (by kernel_rfl) ?_
             refine sR ?_
             refine pV 86 (.pointer (some ⟨g1, 15, none⟩)) ?_
             refine pEz M 87 g1 15 (.string m.da) (fun w M => M.cell 0 rfl (by decide) rfl) ?_
             refine pC M 88 44 #[.string m.da] (.tuple #[.string (duS m.da), .int .i64 (wtE m.da)]) (fun w M => d_WText m.da (by omega) w M.laid) fun u2 M => ?_
             refine pV 85 (.tuple #[.string (duS m.da), .int .i64 (wtE m.da)]) ?_
             refine pV 89 (.string (duS m.da)) ?_
             refine pV 90 (.int .i64 (wtE m.da)) ?_
             refine pV 8 (.string (duS m.da)) ?_
             refine pV 9 (.int .i64 (wtE m.da)) ?_
             refine nT ?_
             refine sR ?_
             refine pV 91 (.string (duS m.da)) ?_
             refine pV 4 (.string (duS m.da)) ?_
             refine nT ?_
             refine wp_ret ?_
             refine au_block_ret ?_
             refine au_then_ret ?_
             have e0 : (dbF m c_) = (duS m.da) := by simp only [dbF, deB, if_neg c0, if_neg c1, if_neg c2, if_neg c3, if_neg c4, if_neg c5, if_neg c6, if_neg c7, if_neg c8, if_neg c9, if_neg c10, if_pos c11]
             exact bodyPost_ret (v := .string (duS m.da)) (results_tmp1 Try.results25 _ _ _ (by kernel_rfl)) (by kernel_rfl) ⟨by rw [e0], below_grown M.old⟩
            ·skip
             refine pH 84 (.bool false) (dF (c_ = 68) (c11)) ?_
             refine pV 83 (.bool false) ?_
             refine nT ?_
             refine wp_cond_false (by kernel_rfl) ?_
             refine wp_skip ?_
             refine au_block ?_
             refine au_then ?_
             refine sR ?_
             refine pV 92 (.pointer (some ⟨g1, 16, none⟩)) ?_
             refine pEz M 93 g1 16 (.string m.sg) (fun w M => M.cell 0 rfl (by decide) rfl) ?_
             refine pV 4 (.string m.sg) ?_
             refine nT ?_
             refine wp_ret ?_
             have e0 : (dbF m c_) = m.sg := by simp only [dbF, deB, if_neg c0, if_neg c1, if_neg c2, if_neg c3, if_neg c4, if_neg c5, if_neg c6, if_neg c7, if_neg c8, if_neg c9, if_neg c10, if_neg c11]
             exact bodyPost_ret (v := .string m.sg) (results_tmp1 Try.results25 _ _ _ (by kernel_rfl)) (by kernel_rfl) ⟨by rw [e0], below_grown M.old⟩
set_option maxRecDepth 100000 in
set_option maxHeartbeats 4000000 in
set_option linter.unusedSimpArgs false in
theorem d_Encode (m : Mg) (ht : 0 ≤ m.ty ∧ m.ty < 256) (hm : smM m) (w : World) (hL : Laid w)  :
  Calls Try.prog 11 #[.agg (av 17 (ls [.int .u8 m.ty, .string m.fr, .string m.tq, .int .u32 m.ix, .int .u32 m.pe, .int .u64 m.ct, .int .u64 m.ba, .int .u64 m.ve, .string m.tx, .bool (m.ev), .int .u64 m.eh, .int .u64 m.el, .int .u16 m.ep, .int .u16 m.co, .string m.tt, .string m.da, .string m.sg]))] w fun r w' => r = .returned (.tuple #[.string (deO m), .int .i64 (dE m)]) ∧ Below w.heap.size w w' := by
 go_enter Try.func11, Try.ntmps11
 have M := Mem.start hL
 have hz := fdP_le m.ty
 refine sR ?_
 refine pN M 1 (.cells (av 17 (ls [.int .u8 m.ty, .string m.fr, .string m.tq, .int .u32 m.ix, .int .u32 m.pe, .int .u64 m.ct, .int .u64 m.ba, .int .u64 m.ve, .string m.tx, .bool (m.ev), .int .u64 m.eh, .int .u64 m.el, .int .u16 m.ep, .int .u16 m.co, .string m.tt, .string m.da, .string m.sg])) 30) fun g1 u1 M => ?_
 replace M : Mem ⟨w, []⟩ [⟨g1, .cells (av 17 (ls [.int .u8 m.ty, .string m.fr, .string m.tq, .int .u32 m.ix, .int .u32 m.pe, .int .u64 m.ct, .int .u64 m.ba, .int .u64 m.ve, .string m.tx, .bool (m.ev), .int .u64 m.eh, .int .u64 m.el, .int .u16 m.ep, .int .u16 m.co, .string m.tt, .string m.da, .string m.sg])) 30⟩] u1 := M
 refine pV 2 (.string ⟨#[]⟩) ?_
 refine pV 3 (.int .i64 0) ?_
 refine nT ?_
 refine sR ?_
 refine pAz M 8 0 17 (ls [.int .u8 m.ty, .string m.fr, .string m.tq, .int .u32 m.ix, .int .u32 m.pe, .int .u64 m.ct, .int .u64 m.ba, .int .u64 m.ve, .string m.tx, .bool (m.ev), .int .u64 m.eh, .int .u64 m.el, .int .u16 m.ep, .int .u16 m.co, .string m.tt, .string m.da, .string m.sg]) ?_
 refine pC M 9 15 #[.agg (av 17 (ls [.int .u8 m.ty, .string m.fr, .string m.tq, .int .u32 m.ix, .int .u32 m.pe, .int .u64 m.ct, .int .u64 m.ba, .int .u64 m.ve, .string m.tx, .bool (m.ev), .int .u64 m.eh, .int .u64 m.el, .int .u16 m.ep, .int .u16 m.co, .string m.tt, .string m.da, .string m.sg]))] (.int .i64 (dE m)) (fun w M => d_May m w M.laid) fun u2 M => ?_
 refine pV 4 (.int .i64 (dE m)) ?_
 refine nT ?_
 refine wp_seq ?_
 refine sR ?_
 refine pV 10 (.int .i64 (dE m)) ?_
 by_cases c0 : (dE m) = 0
 ·skip
  refine pH 11 (.bool false) (nF ((dE m) = 0) (c0)) ?_
  refine nT ?_
  refine wp_cond_false (by kernel_rfl) ?_
  refine wp_skip ?_
  refine au_then ?_
  refine sR ?_
  refine pV 13 (.pointer (some ⟨g1, 0, none⟩)) ?_
  refine pEz M 14 g1 0 (.int .u8 m.ty) (fun w M => M.cell 0 rfl (by decide) rfl) ?_
  refine pl_mk M (want_no rfl) (some 15) rfl (fun g2 => .slice (some ⟨g2, 0, none⟩) 1 1) (.cells (av 1 (ls [.int .u8 m.ty])) 5) (fun _ => by kernel_rfl) fun g2 u3 M => ?_
  replace M : Mem ⟨w, []⟩ [⟨g1, .cells (av 17 (ls [.int .u8 m.ty, .string m.fr, .string m.tq, .int .u32 m.ix, .int .u32 m.pe, .int .u64 m.ct, .int .u64 m.ba, .int .u64 m.ve, .string m.tx, .bool (m.ev), .int .u64 m.eh, .int .u64 m.el, .int .u16 m.ep, .int .u16 m.co, .string m.tt, .string m.da, .string m.sg])) 30⟩, ⟨g2, .cells (av 1 (ls [.int .u8 m.ty])) 5⟩] u3 := M
  refine pl_back M (want_no rfl) (some 16) rfl _ rfl 1 g2 1 1 (by kernel_rfl) _ rfl [m.ty] 1 (sb_ls [m.ty] _) rfl (by simpa using ht) ?_
  refine pV 5 (.string (bs [m.ty])) ?_
  refine nT ?_
  refine sR ?_
  refine pV 17 (.pointer (some ⟨g1, 0, none⟩)) ?_
  refine pEz M 18 g1 0 (.int .u8 m.ty) (fun w M => M.cell 0 rfl (by decide) rfl) ?_
  refine pC M 19 24 #[.int .u8 m.ty] (.string (fdP m.ty)) (fun w M => d_Fields m.ty w M.laid) fun u4 M => ?_
  refine pV 6 (.string (fdP m.ty)) ?_
  refine nT ?_
  refine wp_seq ?_
  refine sR ?_
  refine pV 7 (.int .i64 0) ?_
  refine nT ?_
  refine wp_block ?_
  refine au_loop (fun j a w' => ∃ v1 : Nat → Value, a = ⟨#[.agg (av 17 (ls [.int .u8 m.ty, .string m.fr, .string m.tq, .int .u32 m.ix, .int .u32 m.pe, .int .u64 m.ct, .int .u64 m.ba, .int .u64 m.ve, .string m.tx, .bool (m.ev), .int .u64 m.eh, .int .u64 m.el, .int .u16 m.ep, .int .u16 m.co, .string m.tt, .string m.da, .string m.sg])), .pointer (some ⟨g1, 0, none⟩), .string ⟨#[]⟩, .int .i64 0, .int .i64 (dE m), .string (dxS m (fdP m.ty) j), .string (fdP m.ty), .int .i64 (j : Int), .agg (av 17 (ls [.int .u8 m.ty, .string m.fr, .string m.tq, .int .u32 m.ix, .int .u32 m.pe, .int .u64 m.ct, .int .u64 m.ba, .int .u64 m.ve, .string m.tx, .bool (m.ev), .int .u64 m.eh, .int .u64 m.el, .int .u16 m.ep, .int .u16 m.co, .string m.tt, .string m.da, .string m.sg])), .int .i64 (dE m), .int .i64 (dE m), .bool false, undef, .pointer (some ⟨g1, 0, none⟩), .int .u8 m.ty, .slice (some ⟨g2, 0, none⟩) 1 1, .string (bs [m.ty]), .pointer (some ⟨g1, 0, none⟩), .int .u8 m.ty, .string (fdP m.ty), v1 20, v1 21, v1 22, v1 23, v1 24, v1 25, v1 26, v1 27, v1 28, v1 29, v1 30, v1 31, v1 32, undef], []⟩ ∧ Mem ⟨w, []⟩ [⟨g1, .cells (av 17 (ls [.int .u8 m.ty, .string m.fr, .string m.tq, .int .u32 m.ix, .int .u32 m.pe, .int .u64 m.ct, .int .u64 m.ba, .int .u64 m.ve, .string m.tx, .bool (m.ev), .int .u64 m.eh, .int .u64 m.el, .int .u16 m.ep, .int .u16 m.co, .string m.tt, .string m.da, .string m.sg])) 30⟩, ⟨g2, .cells (av 1 (ls [.int .u8 m.ty])) 5⟩] w') (fdP m.ty).size ⟨fun k_ => ([undef, undef, undef, undef, undef, undef, undef, undef, undef, undef, undef, undef, undef] : List Value).getD (k_ - 20) undef, by kernel_rfl, M⟩ ?_ ?_
  ·intro j a u0 hj hI
   obtain ⟨v1, rfl, M⟩ := hI
   refine wp_seq ?_
   refine sR ?_
   refine pV 20 (.int .i64 (j : Int)) ?_
   refine pV 21 (.string (fdP m.ty)) ?_
   refine pV 22 (.int .i64 ((fdP m.ty).size : Int)) ?_
   refine pH 23 (.bool true) (dTz ((j : Int) < ((fdP m.ty).size : Int)) (by omega)) ?_
   refine nT ?_
   refine wp_cond_true (by kernel_rfl) ?_
   refine wp_skip ?_
   refine au_then ?_
   refine wp_seq ?_
   refine wp_block ?_
   refine rg_tail M 7 (by kernel_rfl) (by kernel_rfl) ?_
   simp only [List.take_succ_cons, List.take_zero]
   refine kV 26 (.string (dxS m (fdP m.ty) j)) ?_
   refine kA M 27 0 17 (ls [.int .u8 m.ty, .string m.fr, .string m.tq, .int .u32 m.ix, .int .u32 m.pe, .int .u64 m.ct, .int .u64 m.ba, .int .u64 m.ve, .string m.tx, .bool (m.ev), .int .u64 m.eh, .int .u64 m.el, .int .u16 m.ep, .int .u16 m.co, .string m.tt, .string m.da, .string m.sg]) ?_
   refine kV 28 (.string (fdP m.ty)) ?_
   refine kV 29 (.int .i64 (j : Int)) ?_
   refine kH 30 (.int .u8 (bt (fdP m.ty) j)) (run_ixS 9 Try.underlying9 _ _ rfl (fdP m.ty) (by kernel_rfl) .i64 j (by kernel_rfl) (by omega)) ?_
   refine kC M 31 25 #[.agg (av 17 (ls [.int .u8 m.ty, .string m.fr, .string m.tq, .int .u32 m.ix, .int .u32 m.pe, .int .u64 m.ct, .int .u64 m.ba, .int .u64 m.ve, .string m.tx, .bool (m.ev), .int .u64 m.eh, .int .u64 m.el, .int .u16 m.ep, .int .u16 m.co, .string m.tt, .string m.da, .string m.sg])), .int .u8 (bt (fdP m.ty) j)] (.string (dbF m (bt (fdP m.ty) j))) (fun w M => d_bytes m (bt (fdP m.ty) j) hm w M.laid) ?_
   refine kH 32 (.string ((dxS m (fdP m.ty) j) ++ (dbF m (bt (fdP m.ty) j)))) (run_cat 9 9 _ _ rfl (dxS m (fdP m.ty) j) (dbF m (bt (fdP m.ty) j)) (by kernel_rfl) (by kernel_rfl) (by have h8 := dxS_le hm (fdP m.ty) j; have h9 := dbF_le hm (bt (fdP m.ty) j); omega)) ?_
   refine kl_nil fun u5 M => ?_
   replace M : Mem ⟨w, []⟩ [⟨g1, .cells (av 17 (ls [.int .u8 m.ty, .string m.fr, .string m.tq, .int .u32 m.ix, .int .u32 m.pe, .int .u64 m.ct, .int .u64 m.ba, .int .u64 m.ve, .string m.tx, .bool (m.ev), .int .u64 m.eh, .int .u64 m.el, .int .u16 m.ep, .int .u16 m.co, .string m.tt, .string m.da, .string m.sg])) 30⟩, ⟨g2, .cells (av 1 (ls [.int .u8 m.ty])) 5⟩] u5 := M
   refine pV 5 (.string ((dxS m (fdP m.ty) j) ++ (dbF m (bt (fdP m.ty) j)))) ?_
   refine pl_nil ?_
   refine au_block ?_
   refine au_then ?_
   refine rg_lit ?_
   refine pV 24 (.int .i64 (j : Int)) ?_
   refine pH 25 (.int .i64 ((j + 1 : Nat) : Int)) (iV ((j : Int) + 1) (by omega) (by omega) (by omega)) ?_
   refine pV 7 (.int .i64 ((j + 1 : Nat) : Int)) ?_
   refine nT ?_
   exact ⟨fun k_ => ([.int .i64 (j : Int), .string (fdP m.ty), .int .i64 ((fdP m.ty).size : Int), .bool true, .int .i64 (j : Int), .int .i64 ((j + 1 : Nat) : Int), .string (dxS m (fdP m.ty) j), .agg (av 17 (ls [.int .u8 m.ty, .string m.fr, .string m.tq, .int .u32 m.ix, .int .u32 m.pe, .int .u64 m.ct, .int .u64 m.ba, .int .u64 m.ve, .string m.tx, .bool (m.ev), .int .u64 m.eh, .int .u64 m.el, .int .u16 m.ep, .int .u16 m.co, .string m.tt, .string m.da, .string m.sg])), .string (fdP m.ty), .int .i64 (j : Int), .int .u8 (bt (fdP m.ty) j), .string (dbF m (bt (fdP m.ty) j)), .string ((dxS m (fdP m.ty) j) ++ (dbF m (bt (fdP m.ty) j)))] : List Value).getD (k_ - 20) undef, by kernel_rfl, M⟩
  ·intro a u0 hI
   obtain ⟨v1, rfl, M⟩ := hI
   refine wp_seq ?_
   refine sR ?_
   refine pV 20 (.int .i64 (((fdP m.ty).size : Nat) : Int)) ?_
   refine pV 21 (.string (fdP m.ty)) ?_
   refine pV 22 (.int .i64 ((fdP m.ty).size : Int)) ?_
   refine pH 23 (.bool false) (dF ((((fdP m.ty).size : Nat) : Int) < ((fdP m.ty).size : Int)) (by omega)) ?_
   refine nT ?_
   refine wp_cond_false (by kernel_rfl) ?_
   refine wp_exit ?_
   refine au_then_exit ?_
   refine au_then_exit ?_
   refine au_block_exit ?_
   refine au_then ?_
   refine sR ?_
   refine pV 33 (.string (dxS m (fdP m.ty) ((fdP m.ty).size))) ?_
   refine pV 2 (.string (dxS m (fdP m.ty) ((fdP m.ty).size))) ?_
   refine pV 3 (.int .i64 0) ?_
   refine nT ?_
   refine wp_ret ?_
   have e0 : (deO m) = (dxS m (fdP m.ty) ((fdP m.ty).size)) := by simp only [deO, if_pos c0]
   have e1 : (dE m) = 0 := c0
   exact bodyPost_ret (v := .tuple #[.string (dxS m (fdP m.ty) ((fdP m.ty).size)), .int .i64 0]) (results_tmp2 Try.results11 _ _ _ _ (by kernel_rfl) (by kernel_rfl)) (by kernel_rfl) ⟨by rw [e0, e1], below_grown M.old⟩
 ·skip
  refine pH 11 (.bool true) (nU ((dE m) = 0) (c0)) ?_
  refine nT ?_
  refine wp_cond_true (by kernel_rfl) ?_
  refine sR ?_
  refine pV 12 (.int .i64 (dE m)) ?_
  refine pV 2 (.string ⟨#[]⟩) ?_
  refine pV 3 (.int .i64 (dE m)) ?_
  refine nT ?_
  refine wp_ret ?_
  refine au_then_ret ?_
  have e0 : (deO m) = ⟨#[]⟩ := by simp only [deO, if_neg c0]
  exact bodyPost_ret (v := .tuple #[.string ⟨#[]⟩, .int .i64 (dE m)]) (results_tmp2 Try.results11 _ _ _ _ (by kernel_rfl) (by kernel_rfl)) (by kernel_rfl) ⟨by rw [e0], below_grown M.old⟩
end Go.Proofs.Ytbechjlkmajcoaa

namespace Go.Proofs.Ytbechjlkmajcoaa
open Go.RowKit
structure okM (m : Mg) : Prop where
 ty : 0 ≤ m.ty ∧ m.ty < 256
 ix : 0 ≤ m.ix ∧ m.ix < 4294967296
 pe : 0 ≤ m.pe ∧ m.pe < 4294967296
 ct : 0 ≤ m.ct ∧ m.ct < 18446744073709551616
 ba : 0 ≤ m.ba ∧ m.ba < 18446744073709551616
 ve : 0 ≤ m.ve ∧ m.ve < 18446744073709551616
 eh : 0 ≤ m.eh ∧ m.eh < 18446744073709551616
 el : 0 ≤ m.el ∧ m.el < 18446744073709551616
 ep : 0 ≤ m.ep ∧ m.ep < 65536
 co : 0 ≤ m.co ∧ m.co < 65536
def letV : Nat → Int
 | 0 => 70
 | 1 => 84
 | 2 => 73
 | 3 => 80
 | 4 => 67
 | 5 => 66
 | 6 => 86
 | 7 => 88
 | 8 => 69
 | 9 => 75
 | 10 => 78
 | 11 => 68
 | 12 => 83
 | _ => 0
theorem ty_cases {t : Int} (h : shP t ≠ 0) : t = 1 ∨ t = 2 ∨ t = 3 ∨ t = 4 ∨ t = 5 ∨ t = 6 ∨ t = 7 ∨ t = 8 ∨ t = 9 ∨ t = 10 ∨ t = 11 ∨ t = 12 ∨ t = 13 ∨ t = 14 ∨ t = 15 ∨ t = 16 ∨ t = 17 ∨ t = 18 ∨ t = 19 ∨ t = 20 ∨ t = 21 := by
 refine Classical.byContradiction fun hn => h ?_
 simp only [not_or] at hn
 obtain ⟨h1, h2, h3, h4, h5, h6, h7, h8, h9, h10, h11, h12, h13, h14, h15, h16, h17, h18, h19, h20, h21⟩ := hn
 unfold shP
 rw [if_neg h1, if_neg h2, if_neg h3, if_neg h4, if_neg h5, if_neg h6, if_neg h7, if_neg h8, if_neg h9, if_neg h10, if_neg h11, if_neg h12, if_neg h13, if_neg h14, if_neg h15, if_neg h16, if_neg h17, if_neg h18, if_neg h19, if_neg h20, if_neg h21]
theorem fd_sh (t : Int) : fdP t = ⟨#[]⟩ ↔ shP t = 0 := by
 by_cases h : shP t = 0
 ·refine ⟨fun _ => h, fun _ => ?_⟩
  refine Classical.byContradiction fun hn => ?_
  have key : fdP t ≠ ⟨#[]⟩ → shP t ≠ 0 := fun hn => by
   have : t = 1 ∨ t = 2 ∨ t = 3 ∨ t = 4 ∨ t = 5 ∨ t = 6 ∨ t = 7 ∨ t = 8 ∨ t = 9 ∨ t = 10 ∨ t = 11 ∨ t = 12 ∨ t = 13 ∨ t = 14 ∨ t = 15 ∨ t = 16 ∨ t = 17 ∨ t = 18 ∨ t = 19 ∨ t = 20 ∨ t = 21 := by
    refine Classical.byContradiction fun hx => hn ?_
    simp only [not_or] at hx
    obtain ⟨h1, h2, h3, h4, h5, h6, h7, h8, h9, h10, h11, h12, h13, h14, h15, h16, h17, h18, h19, h20, h21⟩ := hx
    unfold fdP
    rw [if_neg h1, if_neg h2, if_neg h3, if_neg h4, if_neg h5, if_neg h6, if_neg h7, if_neg h8, if_neg h9, if_neg h10, if_neg h11, if_neg h12, if_neg h13, if_neg h14, if_neg h15, if_neg h16, if_neg h17, if_neg h18, if_neg h19, if_neg h20, if_neg h21]
   rcases this with rfl | rfl | rfl | rfl | rfl | rfl | rfl | rfl | rfl | rfl | rfl | rfl | rfl | rfl | rfl | rfl | rfl | rfl | rfl | rfl | rfl <;> decide
  exact key hn h
 ·refine ⟨fun e => ?_, fun e => absurd e h⟩
  exfalso
  revert e
  rcases ty_cases h with rfl | rfl | rfl | rfl | rfl | rfl | rfl | rfl | rfl | rfl | rfl | rfl | rfl | rfl | rfl | rfl | rfl | rfl | rfl | rfl | rfl <;> decide
theorem hs_bit {t : Int} (h : shP t ≠ 0) : ∀ k, k < 13 → hsP t (letV k) = !decide (yn (shP t) (bitV k) = 0) := by
 rcases ty_cases h with rfl | rfl | rfl | rfl | rfl | rfl | rfl | rfl | rfl | rfl | rfl | rfl | rfl | rfl | rfl | rfl | rfl | rfl | rfl | rfl | rfl
 all_goals decide +kernel
def stE (w l : Bool) (e : Int) : Int := if w = true then rfE e 151 else if l = true then rfE e 4 else e
def acE (w l : Bool) : Int := if w = true then 151 else if l = true then 4 else 0
theorem st_ac (w l W L : Bool) : stE w l (acE W L) = acE (W || w) (L || l) := by
 cases w <;> cases l <;> cases W <;> cases L <;> rfl
theorem cv64_0 {x : Int} (h0 : 0 ≤ x) (h1 : x < 18446744073709551616) : cv .u64 x = x := by
 rw [cv_u64]
 omega
theorem ask_0 (m : Mg) (h0 : shP m.ty ≠ 0) (e : Int) : askF (shP m.ty) e (bitV 0) (inV m 0) = stE (!txP m.ty 70 m.fr 32) false e := by
 have hb : hsP m.ty 70 = !decide (yn (shP m.ty) (bitV 0) = 0) := hs_bit h0 0 (by decide)
 unfold askF txP stE
 by_cases c : yn (shP m.ty) (bitV 0) = 0
 ·rw [if_pos c, hb, decide_eq_true c]
  by_cases d : m.fr = ⟨#[]⟩ <;> simp [d, inV]
 ·rw [if_neg c, hb, decide_eq_false c, if_neg (show ¬ yn (bitV 0) 4227 = 0 by decide +kernel), show szO (bitV 0) = 32 from rfl]
  by_cases d : (m.fr.size : Int) = 32
  ·rw [if_pos (show ((inV m 0).t.size : Int) = 32 from d)]
   simp [d]
  ·rw [if_neg (show ¬ ((inV m 0).t.size : Int) = 32 from d)]
   simp [d]
theorem ask_1 (m : Mg) (h0 : shP m.ty ≠ 0) (e : Int) : askF (shP m.ty) e (bitV 1) (inV m 1) = stE (!txP m.ty 84 m.tq 32) false e := by
 have hb : hsP m.ty 84 = !decide (yn (shP m.ty) (bitV 1) = 0) := hs_bit h0 1 (by decide)
 unfold askF txP stE
 by_cases c : yn (shP m.ty) (bitV 1) = 0
 ·rw [if_pos c, hb, decide_eq_true c]
  by_cases d : m.tq = ⟨#[]⟩ <;> simp [d, inV]
 ·rw [if_neg c, hb, decide_eq_false c, if_neg (show ¬ yn (bitV 1) 4227 = 0 by decide +kernel), show szO (bitV 1) = 32 from rfl]
  by_cases d : (m.tq.size : Int) = 32
  ·rw [if_pos (show ((inV m 1).t.size : Int) = 32 from d)]
   simp [d]
  ·rw [if_neg (show ¬ ((inV m 1).t.size : Int) = 32 from d)]
   simp [d]
theorem ask_7 (m : Mg) (h0 : shP m.ty ≠ 0) (e : Int) : askF (shP m.ty) e (bitV 7) (inV m 7) = stE (!txP m.ty 88 m.tx 16) false e := by
 have hb : hsP m.ty 88 = !decide (yn (shP m.ty) (bitV 7) = 0) := hs_bit h0 7 (by decide)
 unfold askF txP stE
 by_cases c : yn (shP m.ty) (bitV 7) = 0
 ·rw [if_pos c, hb, decide_eq_true c]
  by_cases d : m.tx = ⟨#[]⟩ <;> simp [d, inV]
 ·rw [if_neg c, hb, decide_eq_false c, if_neg (show ¬ yn (bitV 7) 4227 = 0 by decide +kernel), show szO (bitV 7) = 16 from rfl]
  by_cases d : (m.tx.size : Int) = 16
  ·rw [if_pos (show ((inV m 7).t.size : Int) = 16 from d)]
   simp [d]
  ·rw [if_neg (show ¬ ((inV m 7).t.size : Int) = 16 from d)]
   simp [d]
theorem ask_12 (m : Mg) (h0 : shP m.ty ≠ 0) (e : Int) : askF (shP m.ty) e (bitV 12) (inV m 12) = stE (!txP m.ty 83 m.sg 64) false e := by
 have hb : hsP m.ty 83 = !decide (yn (shP m.ty) (bitV 12) = 0) := hs_bit h0 12 (by decide)
 unfold askF txP stE
 by_cases c : yn (shP m.ty) (bitV 12) = 0
 ·rw [if_pos c, hb, decide_eq_true c]
  by_cases d : m.sg = ⟨#[]⟩ <;> simp [d, inV]
 ·rw [if_neg c, hb, decide_eq_false c, if_neg (show ¬ yn (bitV 12) 4227 = 0 by decide +kernel), show szO (bitV 12) = 64 from rfl]
  by_cases d : (m.sg.size : Int) = 64
  ·rw [if_pos (show ((inV m 12).t.size : Int) = 64 from d)]
   simp [d]
  ·rw [if_neg (show ¬ ((inV m 12).t.size : Int) = 64 from d)]
   simp [d]
theorem ask_2 (m : Mg) (h0 : shP m.ty ≠ 0) (hr : okM m) (e : Int) : askF (shP m.ty) e (bitV 2) (inV m 2) = stE ((!hsP m.ty 73 && !decide (m.ix = 0))) false e := by
 have hb : hsP m.ty 73 = !decide (yn (shP m.ty) (bitV 2) = 0) := hs_bit h0 2 (by decide)
 have hn : (inV m 2).n = m.ix := cv64_0 hr.ix.1 (by have := hr.ix.2; omega)
 unfold askF stE
 by_cases c : yn (shP m.ty) (bitV 2) = 0
 ·rw [if_pos c, hb, decide_eq_true c, hn]
  by_cases d : m.ix = 0 <;> simp [d, inV]
 ·rw [if_neg c, hb, decide_eq_false c, if_pos (show yn (bitV 2) 4227 = 0 by decide +kernel), if_neg (show ¬ bitV 2 = 256 by decide), if_pos (show yn (bitV 2) 3072 = 0 by decide +kernel)]
  simp
theorem ask_3 (m : Mg) (h0 : shP m.ty ≠ 0) (hr : okM m) (e : Int) : askF (shP m.ty) e (bitV 3) (inV m 3) = stE ((!hsP m.ty 80 && !decide (m.pe = 0))) false e := by
 have hb : hsP m.ty 80 = !decide (yn (shP m.ty) (bitV 3) = 0) := hs_bit h0 3 (by decide)
 have hn : (inV m 3).n = m.pe := cv64_0 hr.pe.1 (by have := hr.pe.2; omega)
 unfold askF stE
 by_cases c : yn (shP m.ty) (bitV 3) = 0
 ·rw [if_pos c, hb, decide_eq_true c, hn]
  by_cases d : m.pe = 0 <;> simp [d, inV]
 ·rw [if_neg c, hb, decide_eq_false c, if_pos (show yn (bitV 3) 4227 = 0 by decide +kernel), if_neg (show ¬ bitV 3 = 256 by decide), if_pos (show yn (bitV 3) 3072 = 0 by decide +kernel)]
  simp
theorem ask_4 (m : Mg) (h0 : shP m.ty ≠ 0) (e : Int) : askF (shP m.ty) e (bitV 4) (inV m 4) = stE ((!hsP m.ty 67 && !decide (m.ct = 0))) false e := by
 have hb : hsP m.ty 67 = !decide (yn (shP m.ty) (bitV 4) = 0) := hs_bit h0 4 (by decide)
 have hn : (inV m 4).n = m.ct := rfl
 unfold askF stE
 by_cases c : yn (shP m.ty) (bitV 4) = 0
 ·rw [if_pos c, hb, decide_eq_true c, hn]
  by_cases d : m.ct = 0 <;> simp [d, inV]
 ·rw [if_neg c, hb, decide_eq_false c, if_pos (show yn (bitV 4) 4227 = 0 by decide +kernel), if_neg (show ¬ bitV 4 = 256 by decide), if_pos (show yn (bitV 4) 3072 = 0 by decide +kernel)]
  simp
theorem ask_5 (m : Mg) (h0 : shP m.ty ≠ 0) (e : Int) : askF (shP m.ty) e (bitV 5) (inV m 5) = stE ((!hsP m.ty 66 && !decide (m.ba = 0))) false e := by
 have hb : hsP m.ty 66 = !decide (yn (shP m.ty) (bitV 5) = 0) := hs_bit h0 5 (by decide)
 have hn : (inV m 5).n = m.ba := rfl
 unfold askF stE
 by_cases c : yn (shP m.ty) (bitV 5) = 0
 ·rw [if_pos c, hb, decide_eq_true c, hn]
  by_cases d : m.ba = 0 <;> simp [d, inV]
 ·rw [if_neg c, hb, decide_eq_false c, if_pos (show yn (bitV 5) 4227 = 0 by decide +kernel), if_neg (show ¬ bitV 5 = 256 by decide), if_pos (show yn (bitV 5) 3072 = 0 by decide +kernel)]
  simp
theorem ask_6 (m : Mg) (h0 : shP m.ty ≠ 0) (e : Int) : askF (shP m.ty) e (bitV 6) (inV m 6) = stE ((!hsP m.ty 86 && !decide (m.ve = 0))) false e := by
 have hb : hsP m.ty 86 = !decide (yn (shP m.ty) (bitV 6) = 0) := hs_bit h0 6 (by decide)
 have hn : (inV m 6).n = m.ve := rfl
 unfold askF stE
 by_cases c : yn (shP m.ty) (bitV 6) = 0
 ·rw [if_pos c, hb, decide_eq_true c, hn]
  by_cases d : m.ve = 0 <;> simp [d, inV]
 ·rw [if_neg c, hb, decide_eq_false c, if_pos (show yn (bitV 6) 4227 = 0 by decide +kernel), if_neg (show ¬ bitV 6 = 256 by decide), if_pos (show yn (bitV 6) 3072 = 0 by decide +kernel)]
  simp
theorem ask_9 (m : Mg) (h0 : shP m.ty ≠ 0) (hr : okM m) (e : Int) : askF (shP m.ty) e (bitV 9) (inV m 9) = stE ((!hsP m.ty 75 && !decide (m.co = 0))) false e := by
 have hb : hsP m.ty 75 = !decide (yn (shP m.ty) (bitV 9) = 0) := hs_bit h0 9 (by decide)
 have hn : (inV m 9).n = m.co := cv64_0 hr.co.1 (by have := hr.co.2; omega)
 unfold askF stE
 by_cases c : yn (shP m.ty) (bitV 9) = 0
 ·rw [if_pos c, hb, decide_eq_true c, hn]
  by_cases d : m.co = 0 <;> simp [d, inV]
 ·rw [if_neg c, hb, decide_eq_false c, if_pos (show yn (bitV 9) 4227 = 0 by decide +kernel), if_neg (show ¬ bitV 9 = 256 by decide), if_pos (show yn (bitV 9) 3072 = 0 by decide +kernel)]
  simp
theorem ask_8 (m : Mg) (h0 : shP m.ty ≠ 0) (e : Int) : askF (shP m.ty) e (bitV 8) (inV m 8) = stE ((!hsP m.ty 69 && !decide (m.ev = false ∧ m.eh = 0 ∧ m.el = 0 ∧ m.ep = 0)) || !mA m.ev m.eh m.el) false e := by
 have hb : hsP m.ty 69 = !decide (yn (shP m.ty) (bitV 8) = 0) := hs_bit h0 8 (by decide)
 unfold askF stE
 by_cases c : yn (shP m.ty) (bitV 8) = 0
 ·rw [if_pos c, hb, decide_eq_true c]
  by_cases d : m.ev = false ∧ m.eh = 0 ∧ m.el = 0 ∧ m.ep = 0
  ·obtain ⟨d1, d2, d3, d4⟩ := d
   simp [d1, d2, d3, d4, inV, mA]
  ·rw [if_neg (fun x => d ⟨x.2.2.1, x.2.2.2.1, x.2.2.2.2.1, x.2.2.2.2.2⟩), decide_eq_false d]
   simp
 ·rw [if_neg c, hb, decide_eq_false c, if_pos (show yn (bitV 8) 4227 = 0 by decide +kernel), if_pos (show bitV 8 = 256 from rfl)]
  cases hm : mA m.ev m.eh m.el
  ·rw [if_neg (show ¬ mA (inV m 8).v (inV m 8).h (inV m 8).l = true by show ¬ mA m.ev m.eh m.el = true; rw [hm]; decide)]
   simp
  ·rw [if_pos (show mA (inV m 8).v (inV m 8).h (inV m 8).l = true from hm)]
   simp
theorem ask_10 (m : Mg) (h0 : shP m.ty ≠ 0) (e : Int) : askF (shP m.ty) e (bitV 10) (inV m 10) = stE (!hsP m.ty 78 && !decide (m.tt = ⟨#[]⟩)) (hsP m.ty 78 && decide (64 < (m.tt.size : Int))) e := by
 have hb : hsP m.ty 78 = !decide (yn (shP m.ty) (bitV 10) = 0) := hs_bit h0 10 (by decide)
 unfold askF stE
 by_cases c : yn (shP m.ty) (bitV 10) = 0
 ·rw [if_pos c, hb, decide_eq_true c]
  by_cases d : m.tt = ⟨#[]⟩ <;> simp [d, inV]
 ·rw [if_neg c, hb, decide_eq_false c, if_pos (show yn (bitV 10) 4227 = 0 by decide +kernel), if_neg (show ¬ bitV 10 = 256 by decide), if_neg (show ¬ yn (bitV 10) 3072 = 0 by decide +kernel), show moO (bitV 10) = 64 from rfl]
  by_cases d : 64 < (m.tt.size : Int)
  ·rw [if_pos (show 64 < ((inV m 10).t.size : Int) from d)]
   simp [d]
  ·rw [if_neg (show ¬ 64 < ((inV m 10).t.size : Int) from d)]
   simp [d]
theorem ask_11 (m : Mg) (h0 : shP m.ty ≠ 0) (e : Int) : askF (shP m.ty) e (bitV 11) (inV m 11) = stE (!hsP m.ty 68 && !decide (m.da = ⟨#[]⟩)) (hsP m.ty 68 && decide (32768 < (m.da.size : Int))) e := by
 have hb : hsP m.ty 68 = !decide (yn (shP m.ty) (bitV 11) = 0) := hs_bit h0 11 (by decide)
 unfold askF stE
 by_cases c : yn (shP m.ty) (bitV 11) = 0
 ·rw [if_pos c, hb, decide_eq_true c]
  by_cases d : m.da = ⟨#[]⟩ <;> simp [d, inV]
 ·rw [if_neg c, hb, decide_eq_false c, if_pos (show yn (bitV 11) 4227 = 0 by decide +kernel), if_neg (show ¬ bitV 11 = 256 by decide), if_neg (show ¬ yn (bitV 11) 3072 = 0 by decide +kernel), show moO (bitV 11) = 32768 from rfl]
  by_cases d : 32768 < (m.da.size : Int)
  ·rw [if_pos (show 32768 < ((inV m 11).t.size : Int) from d)]
   simp [d]
  ·rw [if_neg (show ¬ 32768 < ((inV m 11).t.size : Int) from d)]
   simp [d]
theorem askS_ac (m : Mg) (h0 : shP m.ty ≠ 0) (hr : okM m) : askS m (shP m.ty) 13 = acE (((((((((((((false || (!txP m.ty 70 m.fr 32)) || (!txP m.ty 84 m.tq 32)) || ((!hsP m.ty 73 && !decide (m.ix = 0)))) || ((!hsP m.ty 80 && !decide (m.pe = 0)))) || ((!hsP m.ty 67 && !decide (m.ct = 0)))) || ((!hsP m.ty 66 && !decide (m.ba = 0)))) || ((!hsP m.ty 86 && !decide (m.ve = 0)))) || (!txP m.ty 88 m.tx 16)) || (((!hsP m.ty 69 && !decide (m.ev = false ∧ m.eh = 0 ∧ m.el = 0 ∧ m.ep = 0)) || !mA m.ev m.eh m.el))) || ((!hsP m.ty 75 && !decide (m.co = 0)))) || ((!hsP m.ty 78 && !decide (m.tt = ⟨#[]⟩)))) || ((!hsP m.ty 68 && !decide (m.da = ⟨#[]⟩)))) || (!txP m.ty 83 m.sg 64)) (((((((((((((false || false) || false) || false) || false) || false) || false) || false) || false) || false) || false) || (hsP m.ty 78 && decide (64 < (m.tt.size : Int)))) || (hsP m.ty 68 && decide (32768 < (m.da.size : Int)))) || false) := by
 have e0 : askS m (shP m.ty) 0 = acE false false := rfl
 have e1 : askS m (shP m.ty) 1 = acE (false || (!txP m.ty 70 m.fr 32)) (false || false) := by
  show askF (shP m.ty) (askS m (shP m.ty) 0) (bitV 0) (inV m 0) = _
  rw [e0, ask_0 m h0, st_ac]
 have e2 : askS m (shP m.ty) 2 = acE ((false || (!txP m.ty 70 m.fr 32)) || (!txP m.ty 84 m.tq 32)) ((false || false) || false) := by
  show askF (shP m.ty) (askS m (shP m.ty) 1) (bitV 1) (inV m 1) = _
  rw [e1, ask_1 m h0, st_ac]
 have e3 : askS m (shP m.ty) 3 = acE (((false || (!txP m.ty 70 m.fr 32)) || (!txP m.ty 84 m.tq 32)) || ((!hsP m.ty 73 && !decide (m.ix = 0)))) (((false || false) || false) || false) := by
  show askF (shP m.ty) (askS m (shP m.ty) 2) (bitV 2) (inV m 2) = _
  rw [e2, ask_2 m h0 hr, st_ac]
 have e4 : askS m (shP m.ty) 4 = acE ((((false || (!txP m.ty 70 m.fr 32)) || (!txP m.ty 84 m.tq 32)) || ((!hsP m.ty 73 && !decide (m.ix = 0)))) || ((!hsP m.ty 80 && !decide (m.pe = 0)))) ((((false || false) || false) || false) || false) := by
  show askF (shP m.ty) (askS m (shP m.ty) 3) (bitV 3) (inV m 3) = _
  rw [e3, ask_3 m h0 hr, st_ac]
 have e5 : askS m (shP m.ty) 5 = acE (((((false || (!txP m.ty 70 m.fr 32)) || (!txP m.ty 84 m.tq 32)) || ((!hsP m.ty 73 && !decide (m.ix = 0)))) || ((!hsP m.ty 80 && !decide (m.pe = 0)))) || ((!hsP m.ty 67 && !decide (m.ct = 0)))) (((((false || false) || false) || false) || false) || false) := by
  show askF (shP m.ty) (askS m (shP m.ty) 4) (bitV 4) (inV m 4) = _
  rw [e4, ask_4 m h0, st_ac]
 have e6 : askS m (shP m.ty) 6 = acE ((((((false || (!txP m.ty 70 m.fr 32)) || (!txP m.ty 84 m.tq 32)) || ((!hsP m.ty 73 && !decide (m.ix = 0)))) || ((!hsP m.ty 80 && !decide (m.pe = 0)))) || ((!hsP m.ty 67 && !decide (m.ct = 0)))) || ((!hsP m.ty 66 && !decide (m.ba = 0)))) ((((((false || false) || false) || false) || false) || false) || false) := by
  show askF (shP m.ty) (askS m (shP m.ty) 5) (bitV 5) (inV m 5) = _
  rw [e5, ask_5 m h0, st_ac]
 have e7 : askS m (shP m.ty) 7 = acE (((((((false || (!txP m.ty 70 m.fr 32)) || (!txP m.ty 84 m.tq 32)) || ((!hsP m.ty 73 && !decide (m.ix = 0)))) || ((!hsP m.ty 80 && !decide (m.pe = 0)))) || ((!hsP m.ty 67 && !decide (m.ct = 0)))) || ((!hsP m.ty 66 && !decide (m.ba = 0)))) || ((!hsP m.ty 86 && !decide (m.ve = 0)))) (((((((false || false) || false) || false) || false) || false) || false) || false) := by
  show askF (shP m.ty) (askS m (shP m.ty) 6) (bitV 6) (inV m 6) = _
  rw [e6, ask_6 m h0, st_ac]
 have e8 : askS m (shP m.ty) 8 = acE ((((((((false || (!txP m.ty 70 m.fr 32)) || (!txP m.ty 84 m.tq 32)) || ((!hsP m.ty 73 && !decide (m.ix = 0)))) || ((!hsP m.ty 80 && !decide (m.pe = 0)))) || ((!hsP m.ty 67 && !decide (m.ct = 0)))) || ((!hsP m.ty 66 && !decide (m.ba = 0)))) || ((!hsP m.ty 86 && !decide (m.ve = 0)))) || (!txP m.ty 88 m.tx 16)) ((((((((false || false) || false) || false) || false) || false) || false) || false) || false) := by
  show askF (shP m.ty) (askS m (shP m.ty) 7) (bitV 7) (inV m 7) = _
  rw [e7, ask_7 m h0, st_ac]
 have e9 : askS m (shP m.ty) 9 = acE (((((((((false || (!txP m.ty 70 m.fr 32)) || (!txP m.ty 84 m.tq 32)) || ((!hsP m.ty 73 && !decide (m.ix = 0)))) || ((!hsP m.ty 80 && !decide (m.pe = 0)))) || ((!hsP m.ty 67 && !decide (m.ct = 0)))) || ((!hsP m.ty 66 && !decide (m.ba = 0)))) || ((!hsP m.ty 86 && !decide (m.ve = 0)))) || (!txP m.ty 88 m.tx 16)) || (((!hsP m.ty 69 && !decide (m.ev = false ∧ m.eh = 0 ∧ m.el = 0 ∧ m.ep = 0)) || !mA m.ev m.eh m.el))) (((((((((false || false) || false) || false) || false) || false) || false) || false) || false) || false) := by
  show askF (shP m.ty) (askS m (shP m.ty) 8) (bitV 8) (inV m 8) = _
  rw [e8, ask_8 m h0, st_ac]
 have e10 : askS m (shP m.ty) 10 = acE ((((((((((false || (!txP m.ty 70 m.fr 32)) || (!txP m.ty 84 m.tq 32)) || ((!hsP m.ty 73 && !decide (m.ix = 0)))) || ((!hsP m.ty 80 && !decide (m.pe = 0)))) || ((!hsP m.ty 67 && !decide (m.ct = 0)))) || ((!hsP m.ty 66 && !decide (m.ba = 0)))) || ((!hsP m.ty 86 && !decide (m.ve = 0)))) || (!txP m.ty 88 m.tx 16)) || (((!hsP m.ty 69 && !decide (m.ev = false ∧ m.eh = 0 ∧ m.el = 0 ∧ m.ep = 0)) || !mA m.ev m.eh m.el))) || ((!hsP m.ty 75 && !decide (m.co = 0)))) ((((((((((false || false) || false) || false) || false) || false) || false) || false) || false) || false) || false) := by
  show askF (shP m.ty) (askS m (shP m.ty) 9) (bitV 9) (inV m 9) = _
  rw [e9, ask_9 m h0 hr, st_ac]
 have e11 : askS m (shP m.ty) 11 = acE (((((((((((false || (!txP m.ty 70 m.fr 32)) || (!txP m.ty 84 m.tq 32)) || ((!hsP m.ty 73 && !decide (m.ix = 0)))) || ((!hsP m.ty 80 && !decide (m.pe = 0)))) || ((!hsP m.ty 67 && !decide (m.ct = 0)))) || ((!hsP m.ty 66 && !decide (m.ba = 0)))) || ((!hsP m.ty 86 && !decide (m.ve = 0)))) || (!txP m.ty 88 m.tx 16)) || (((!hsP m.ty 69 && !decide (m.ev = false ∧ m.eh = 0 ∧ m.el = 0 ∧ m.ep = 0)) || !mA m.ev m.eh m.el))) || ((!hsP m.ty 75 && !decide (m.co = 0)))) || ((!hsP m.ty 78 && !decide (m.tt = ⟨#[]⟩)))) (((((((((((false || false) || false) || false) || false) || false) || false) || false) || false) || false) || false) || (hsP m.ty 78 && decide (64 < (m.tt.size : Int)))) := by
  show askF (shP m.ty) (askS m (shP m.ty) 10) (bitV 10) (inV m 10) = _
  rw [e10, ask_10 m h0, st_ac]
 have e12 : askS m (shP m.ty) 12 = acE ((((((((((((false || (!txP m.ty 70 m.fr 32)) || (!txP m.ty 84 m.tq 32)) || ((!hsP m.ty 73 && !decide (m.ix = 0)))) || ((!hsP m.ty 80 && !decide (m.pe = 0)))) || ((!hsP m.ty 67 && !decide (m.ct = 0)))) || ((!hsP m.ty 66 && !decide (m.ba = 0)))) || ((!hsP m.ty 86 && !decide (m.ve = 0)))) || (!txP m.ty 88 m.tx 16)) || (((!hsP m.ty 69 && !decide (m.ev = false ∧ m.eh = 0 ∧ m.el = 0 ∧ m.ep = 0)) || !mA m.ev m.eh m.el))) || ((!hsP m.ty 75 && !decide (m.co = 0)))) || ((!hsP m.ty 78 && !decide (m.tt = ⟨#[]⟩)))) || ((!hsP m.ty 68 && !decide (m.da = ⟨#[]⟩)))) ((((((((((((false || false) || false) || false) || false) || false) || false) || false) || false) || false) || false) || (hsP m.ty 78 && decide (64 < (m.tt.size : Int)))) || (hsP m.ty 68 && decide (32768 < (m.da.size : Int)))) := by
  show askF (shP m.ty) (askS m (shP m.ty) 11) (bitV 11) (inV m 11) = _
  rw [e11, ask_11 m h0, st_ac]
 have e13 : askS m (shP m.ty) 13 = acE (((((((((((((false || (!txP m.ty 70 m.fr 32)) || (!txP m.ty 84 m.tq 32)) || ((!hsP m.ty 73 && !decide (m.ix = 0)))) || ((!hsP m.ty 80 && !decide (m.pe = 0)))) || ((!hsP m.ty 67 && !decide (m.ct = 0)))) || ((!hsP m.ty 66 && !decide (m.ba = 0)))) || ((!hsP m.ty 86 && !decide (m.ve = 0)))) || (!txP m.ty 88 m.tx 16)) || (((!hsP m.ty 69 && !decide (m.ev = false ∧ m.eh = 0 ∧ m.el = 0 ∧ m.ep = 0)) || !mA m.ev m.eh m.el))) || ((!hsP m.ty 75 && !decide (m.co = 0)))) || ((!hsP m.ty 78 && !decide (m.tt = ⟨#[]⟩)))) || ((!hsP m.ty 68 && !decide (m.da = ⟨#[]⟩)))) || (!txP m.ty 83 m.sg 64)) (((((((((((((false || false) || false) || false) || false) || false) || false) || false) || false) || false) || false) || (hsP m.ty 78 && decide (64 < (m.tt.size : Int)))) || (hsP m.ty 68 && decide (32768 < (m.da.size : Int)))) || false) := by
  show askF (shP m.ty) (askS m (shP m.ty) 12) (bitV 12) (inV m 12) = _
  rw [e12, ask_12 m h0, st_ac]
 exact e13
theorem mE_dE (m : Mg) (hr : okM m) : mE m = dE m := by
 unfold mE dE
 by_cases h0 : shP m.ty = 0
 ·rw [if_pos h0, if_pos ((fd_sh _).2 h0)]
 ·rw [if_neg h0, if_neg (fun e => h0 ((fd_sh _).1 e)), askS_ac m h0 hr]
  have hW : (((((((((((((false || (!txP m.ty 70 m.fr 32)) || (!txP m.ty 84 m.tq 32)) || ((!hsP m.ty 73 && !decide (m.ix = 0)))) || ((!hsP m.ty 80 && !decide (m.pe = 0)))) || ((!hsP m.ty 67 && !decide (m.ct = 0)))) || ((!hsP m.ty 66 && !decide (m.ba = 0)))) || ((!hsP m.ty 86 && !decide (m.ve = 0)))) || (!txP m.ty 88 m.tx 16)) || (((!hsP m.ty 69 && !decide (m.ev = false ∧ m.eh = 0 ∧ m.el = 0 ∧ m.ep = 0)) || !mA m.ev m.eh m.el))) || ((!hsP m.ty 75 && !decide (m.co = 0)))) || ((!hsP m.ty 78 && !decide (m.tt = ⟨#[]⟩)))) || ((!hsP m.ty 68 && !decide (m.da = ⟨#[]⟩)))) || (!txP m.ty 83 m.sg 64)) = ((dA4 m || dB_6 m) || dC4 m) := by
   simp only [dA4, dA3, dA2, dA1, dB_6, dB_5, dB_4, dB_3, dB_2, dB_1, dC4, dC3, dC2, dC1, Bool.false_or]
   ac_rfl
  rw [hW]
  cases a1 : dA4 m
  ·cases a2 : dB_6 m
   ·cases a3 : dC4 m
    ·have c1 : (!hsP m.ty 78 && !decide (m.tt = ⟨#[]⟩)) = false ∧ (!hsP m.ty 68 && !decide (m.da = ⟨#[]⟩)) = false := by
      simp only [dC4, dC3, dC2, dC1, Bool.or_eq_false_iff] at a3
      exact ⟨a3.1.1.1, a3.1.1.2⟩
     have k1 : (hsP m.ty 78 && decide (64 < (m.tt.size : Int))) = decide (64 < (m.tt.size : Int)) := by
      cases hh : hsP m.ty 78
      ·have : m.tt = ⟨#[]⟩ := by simpa [hh] using c1.1
       rw [this]
       rfl
      ·rfl
     have k2 : (hsP m.ty 68 && decide (32768 < (m.da.size : Int))) = decide (32768 < (m.da.size : Int)) := by
      cases hh : hsP m.ty 68
      ·have : m.da = ⟨#[]⟩ := by simpa [hh] using c1.2
       rw [this]
       rfl
      ·rfl
     rw [k1, k2]
     by_cases d1 : 64 < (m.tt.size : Int)
     ·simp [acE, d1]
     ·by_cases d2 : 32768 < (m.da.size : Int) <;> simp [acE, d1, d2]
    ·simp [acE]
   ·simp [acE]
  ·simp [acE]
end Go.Proofs.Ytbechjlkmajcoaa

namespace Go.Proofs.Ytbechjlkmajcoaa
open Go.RowKit
def FL (t : Int) : List Nat := if t = 1 then [0, 1, 10] else if t = 2 then [0, 6, 8] else if t = 3 then [0, 6] else if t = 4 then [6, 11, 12] else if t = 5 then [5, 6, 11, 12] else if t = 6 then [9] else if t = 7 then [7] else if t = 8 then [7, 8] else if t = 9 then [0, 11] else if t = 10 then [0, 11] else if t = 11 then [0] else if t = 12 then [0, 7] else if t = 13 then [11] else if t = 14 then [1, 11] else if t = 15 then [0, 11] else if t = 16 then [1] else if t = 17 then [2, 11] else if t = 18 then [2, 3, 11] else if t = 19 then [3, 4, 11] else if t = 20 then [0, 7] else if t = 21 then [7, 8] else []
def fB (m : Mg) (k : Nat) : ByteArray := dbF m (letV k)
def apB (f : Nat → ByteArray) (x : ByteArray) (l : List Nat) : ByteArray := l.foldl (fun x k => x ++ f k) x
theorem apB_congr {f g : Nat → ByteArray} (x : ByteArray) : ∀ l : List Nat, (∀ k ∈ l, f k = g k) → apB f x l = apB g x l
 | [], _ => rfl
 | k :: l, h => by
  show apB f (x ++ f k) l = apB g (x ++ g k) l
  rw [h k (List.mem_cons_self ..)]
  exact apB_congr _ l fun j hj => h j (List.mem_cons_of_mem _ hj)
theorem FL_lt {t : Int} (h : shP t ≠ 0) : ∀ k ∈ FL t, k < 13 := by
 rcases ty_cases h with rfl | rfl | rfl | rfl | rfl | rfl | rfl | rfl | rfl | rfl | rfl | rfl | rfl | rfl | rfl | rfl | rfl | rfl | rfl | rfl | rfl
 all_goals decide
set_option maxRecDepth 10000 in
theorem wr_fl (m : Mg) {t : Int} (h : shP t ≠ 0) : wrS m (shP t) 13 = apB (fun k => byF (bitV k) (inV m k)) (bs [m.ty]) (FL t) := by
 rcases ty_cases h with rfl | rfl | rfl | rfl | rfl | rfl | rfl | rfl | rfl | rfl | rfl | rfl | rfl | rfl | rfl | rfl | rfl | rfl | rfl | rfl | rfl
 all_goals kernel_rfl
set_option maxRecDepth 10000 in
theorem dx_fl (m : Mg) {t : Int} (h : shP t ≠ 0) : dxS m (fdP t) (fdP t).size = apB (fun k => fB m k) (bs [m.ty]) (FL t) := by
 rcases ty_cases h with rfl | rfl | rfl | rfl | rfl | rfl | rfl | rfl | rfl | rfl | rfl | rfl | rfl | rfl | rfl | rfl | rfl | rfl | rfl | rfl | rfl
 all_goals kernel_rfl
theorem wtS_du (s : ByteArray) : wtS s = duS s := by
 unfold wtS duS
 rw [be2_u16, be2_u64]
theorem enB_de (v : Bool) (h l p : Int) : enB v h l p = deB v h l p := by
 unfold enB deB
 cases v
 ·rw [if_neg (by decide), if_neg (by decide), be4_u32]
  rfl
 ·rw [if_pos rfl, if_pos rfl, ByteArray.append_assoc (a := bs [6])]
  rfl
theorem by_fB (m : Mg) : ∀ k, k < 13 → byF (bitV k) (inV m k) = fB m k
 | 0, _ => rfl
 | 1, _ => rfl
 | 2, _ => be4_u32 _
 | 3, _ => be4_u32 _
 | 4, _ => rfl
 | 5, _ => rfl
 | 6, _ => rfl
 | 7, _ => rfl
 | 8, _ => enB_de _ _ _ _
 | 9, _ => be2_u16 _
 | 10, _ => wtS_du _
 | 11, _ => wtS_du _
 | 12, _ => rfl
theorem eO_is (m : Mg) (h : mE m = 0) : eO m = apB (fun k => fB m k) (bs [m.ty]) (FL m.ty) := by
 have h0 : shP m.ty ≠ 0 := fun e => by
  unfold mE at h
  rw [if_pos e] at h
  exact absurd h (by decide)
 unfold eO
 rw [if_pos h, wr_fl m h0]
 exact apB_congr _ _ fun k hk => by_fB m k (FL_lt h0 k hk)
theorem eO_no (m : Mg) (h : ¬ mE m = 0) : eO m = ⟨#[]⟩ := if_neg h
theorem eO_deO (m : Mg) (hr : okM m) : eO m = deO m := by
 by_cases h : mE m = 0
 ·have h0 : shP m.ty ≠ 0 := fun e => by
   unfold mE at h
   rw [if_pos e] at h
   exact absurd h (by decide)
  rw [eO_is m h]
  unfold deO
  rw [← mE_dE m hr, if_pos h, dx_fl m h0]
 ·rw [eO_no m h]
  unfold deO
  rw [← mE_dE m hr, if_neg h]
end Go.Proofs.Ytbechjlkmajcoaa
