/- Part 3 of the walks and facts behind ipWrites_holds. -/
import Derived.Test.YtndonmdgplojnaaGreatDoorWr2
/- Packets as bytes: the walks of both sides. -/
namespace Go.Proofs.YtndonmdgplojnaaGreatDoor
open Go.RowKit

def hdr (v : Bool) : Int := if v = true then 40 else 20
/-- May a packet be? -/
def my (v0 : Bool) (h0 l0 : Int) (v1 : Bool) (h1 l1 n : Int) : Int := if (mA v0 h0 l0 && mA v1 h1 l1 && decide (v0 = v1)) = true then (if 1500 < hdr v0 + n then 4 else 0) else 2
def aB (v : Bool) (h l : Int) : ByteArray := if v = true then be8 h ++ be8 l else be4 (cv .u64 (cv .u32 l))
def dB (v : Bool) (h l : Int) : ByteArray := if v = true then be8 h ++ be8 l else be4 l
theorem be4_u32 (x : Int) : be4 (cv .u64 (cv .u32 x)) = be4 x := by
  unfold be4
  simp only [cv_u8, cv_u32, cv_u64, sr_8]
  congr 2
  · omega
  · congr 1
    · omega
    · congr 1
      · omega
      · congr 1
        omega
theorem aB_dB (v : Bool) (h l : Int) : aB v h l = dB v h l := by
  unfold aB dB
  rw [be4_u32]
theorem aB_t (h l : Int) : (aB true h l).size = 16 := by
  show (be8 h ++ be8 l).size = 16
  rw [ByteArray.size_append, be8_size, be8_size]
theorem aB_f (h l : Int) : (aB false h l).size = 4 := be4_size _
theorem dB_le (v : Bool) (h l : Int) : (dB v h l).size ≤ 16 := by
  rw [← aB_dB]
  cases v
  · rw [aB_f]; decide
  · rw [aB_t]; decide
/-- Bytes of a text that are laid over others. -/
def cpy (f : Nat → Int) (off n : Nat) (X : ByteArray) : Nat → Int := fun i => if off ≤ i ∧ i < off + n then bt X (i - off) else f i
theorem cpy_w8 (f : Nat → Int) (off n : Nat) (X : ByteArray) (j : Nat) : (if off ≤ j ∧ j < off + n then w8 (bt X) (j - off) else w8 f j) = w8 (cpy f off n X) j := by
  unfold w8 cpy
  split <;> rfl
def NB (f : Nat → Int) : Prop := ∀ i, 0 ≤ f i ∧ f i < 256
theorem NB.z : NB (fun _ => 0) := fun _ => ⟨Int.le_refl 0, show (0 : Int) < 256 by decide⟩
theorem NB.c {f : Nat → Int} (h : NB f) (off n : Nat) (X : ByteArray) : NB (cpy f off n X) := fun i => by
  unfold cpy
  split
  · exact bt_nn _ _
  · exact h i
theorem NB.u {f : Nat → Int} (h : NB f) (k : Nat) {v : Int} (h0 : 0 ≤ v ∧ v < 256) : NB (upd f k v) := fun i => by
  unfold upd
  split
  · exact h0
  · exact h i
theorem NB.l {f : Nat → Int} (h : NB f) (n : Nat) : ∀ x ∈ (List.range n).map f, 0 ≤ x ∧ x < 256 := fun x hx => by
  obtain ⟨i, _, rfl⟩ := List.mem_map.1 hx
  exact h i
theorem sb_avk (n k : Nat) (h : k ≤ n) (F : Nat → Int) (T : TypeId) : SB (.cells (av n (w8 F)) T) n (vs8 ((List.range k).map F)) := ⟨_, T, (0, 0), rfl, by simp [vs8, h], by rw [av_size]; exact Nat.le_refl _, fun i hi => by
  have hi : i < k := by simpa [vs8] using hi
  rw [av_get n (w8 F) i (Nat.lt_of_lt_of_le hi h)]
  simp [vs8, w8, hi], fun i _ => by simp⟩
set_option linter.unusedSimpArgs false in
theorem run_slAH {P : Program} {a : Act} {o : Oper} (t : TypeId) (len : Nat) (elem : TypeId) (hu : P.underlying t = some (.array len elem)) (hs : (P.info? elem).map (·.size) = some 1) (x hi : Operand) (ho : o.op = .slice t x none (some hi) none) (g off : Nat) (hx : a.eval x = .pointer (some ⟨g, off, none⟩)) (k : IntKind) (i : Nat) (hh : a.eval hi = .int k (i : Int)) (hle : i ≤ len) (hl : 0 < len) (w : World) :
    (execOp a.eval o).run P w = .ok (.value (.slice (some ⟨g, off, none⟩) i len)) w := by
  cases hq : P.info? elem with
  | none => simp [hq] at hs
  | some u =>
    have hne : ¬ len = 0 := by omega
    unfold execOp
    simp [ho, hx, hh, Instr.sliceAt, Instr.sureAddr, run_underlying hu, Instr.sliceBounds, run_sliceBound, sizeOf, typeInfo, hq, add_at, hne, hle]
set_option maxRecDepth 100000 in
set_option maxHeartbeats 4000000 in
set_option linter.unusedSimpArgs false in
theorem c_layT  (w : World) (hL : Laid w)  :
    Calls Tryz.prog 37 #[.bool true] w fun r w' => r = .returned (.agg (av 7 (ls [.int .u8 96, .int .i64 40, .int .i64 4, .int .i64 7, .int .i64 6, .int .i64 8, .int .i64 40]))) ∧ Below w.heap.size w w' := by
  go_enter Tryz.func37, Tryz.ntmps37
  have M := Mem.start hL
  refine wp_seq ?_
  refine rg_lit ?_
  refine pl_new M (want_no rfl) (some 2) rfl (.cells (av 7 (ls [.int .u8 0, .int .i64 0, .int .i64 0, .int .i64 0, .int .i64 0, .int .i64 0, .int .i64 0])) 60) (fun _ => by kernel_rfl) ?_
  intro g1 u1 M
  replace M : Mem ⟨w, []⟩ [⟨g1, .cells (av 7 (ls [.int .u8 0, .int .i64 0, .int .i64 0, .int .i64 0, .int .i64 0, .int .i64 0, .int .i64 0])) 60⟩] u1 := M
  refine pl_nil ?_
  refine au_then ?_
  refine wp_seq ?_
  refine wp_seq ?_
  refine rg_lit ?_
  refine pl_val (want_no rfl) (some 3) rfl (.bool true) (fun _ => by kernel_rfl) ?_
  refine pl_nil ?_
  refine au_then ?_
  refine wp_cond_true (by kernel_rfl) ?_
  refine wp_seq ?_
  refine rg_lit ?_
  refine pl_val (want_no rfl) (some 4) rfl (.agg (av 7 (ls [.int .u8 96, .int .i64 40, .int .i64 4, .int .i64 7, .int .i64 6, .int .i64 8, .int .i64 40]))) (fun _ => by kernel_rfl) ?_
  refine pl_put M (want_no rfl) rfl 60 _ _ rfl 0 g1 0 (by kernel_rfl) 7 60 (ls [.int .u8 0, .int .i64 0, .int .i64 0, .int .i64 0, .int .i64 0, .int .i64 0, .int .i64 0]) rfl 7 (ls [.int .u8 96, .int .i64 40, .int .i64 4, .int .i64 7, .int .i64 6, .int .i64 8, .int .i64 40]) (ls [.int .u8 96, .int .i64 40, .int .i64 4, .int .i64 7, .int .i64 6, .int .i64 8, .int .i64 40]) (by kernel_rfl) inz60 (by decide) (one_ls _ rfl) (fun j hj => by rw [if_pos (by omega), Nat.sub_zero]) ?_
  intro u2 M
  replace M : Mem ⟨w, []⟩ [⟨g1, .cells (av 7 (ls [.int .u8 96, .int .i64 40, .int .i64 4, .int .i64 7, .int .i64 6, .int .i64 8, .int .i64 40])) 60⟩] u2 := M
  refine pl_nil ?_
  refine au_then ?_
  refine wp_ret ?_
  refine au_then_ret ?_
  exact bodyPost_ret (v := .agg (av 7 (ls [.int .u8 96, .int .i64 40, .int .i64 4, .int .i64 7, .int .i64 6, .int .i64 8, .int .i64 40]))) (results_cell_row Tryz.results37 _ _ g1 60 (av 7 (ls [.int .u8 96, .int .i64 40, .int .i64 4, .int .i64 7, .int .i64 6, .int .i64 8, .int .i64 40])) (0, 0) _ (by kernel_rfl) (M.get 0 rfl) Tryz.underlying60 rfl (by rw [av_size]; exact inz60)) (by kernel_rfl) ⟨rfl, below_grown M.old⟩

set_option maxRecDepth 100000 in
set_option maxHeartbeats 4000000 in
set_option linter.unusedSimpArgs false in
theorem c_layF  (w : World) (hL : Laid w)  :
    Calls Tryz.prog 37 #[.bool false] w fun r w' => r = .returned (.agg (av 7 (ls [.int .u8 69, .int .i64 20, .int .i64 2, .int .i64 8, .int .i64 9, .int .i64 12, .int .i64 0]))) ∧ Below w.heap.size w w' := by
  go_enter Tryz.func37, Tryz.ntmps37
  have M := Mem.start hL
  refine wp_seq ?_
  refine rg_lit ?_
  refine pl_new M (want_no rfl) (some 2) rfl (.cells (av 7 (ls [.int .u8 0, .int .i64 0, .int .i64 0, .int .i64 0, .int .i64 0, .int .i64 0, .int .i64 0])) 60) (fun _ => by kernel_rfl) ?_
  intro g1 u1 M
  replace M : Mem ⟨w, []⟩ [⟨g1, .cells (av 7 (ls [.int .u8 0, .int .i64 0, .int .i64 0, .int .i64 0, .int .i64 0, .int .i64 0, .int .i64 0])) 60⟩] u1 := M
  refine pl_nil ?_
  refine au_then ?_
  refine wp_seq ?_
  refine wp_seq ?_
  refine rg_lit ?_
  refine pl_val (want_no rfl) (some 3) rfl (.bool false) (fun _ => by kernel_rfl) ?_
  refine pl_nil ?_
  refine au_then ?_
  refine wp_cond_false (by kernel_rfl) ?_
  refine wp_skip ?_
  refine au_then ?_
  refine wp_seq ?_
  refine rg_lit ?_
  refine pl_val (want_no rfl) (some 5) rfl (.agg (av 7 (ls [.int .u8 69, .int .i64 20, .int .i64 2, .int .i64 8, .int .i64 9, .int .i64 12, .int .i64 0]))) (fun _ => by kernel_rfl) ?_
  refine pl_put M (want_no rfl) rfl 60 _ _ rfl 0 g1 0 (by kernel_rfl) 7 60 (ls [.int .u8 0, .int .i64 0, .int .i64 0, .int .i64 0, .int .i64 0, .int .i64 0, .int .i64 0]) rfl 7 (ls [.int .u8 69, .int .i64 20, .int .i64 2, .int .i64 8, .int .i64 9, .int .i64 12, .int .i64 0]) (ls [.int .u8 69, .int .i64 20, .int .i64 2, .int .i64 8, .int .i64 9, .int .i64 12, .int .i64 0]) (by kernel_rfl) inz60 (by decide) (one_ls _ rfl) (fun j hj => by rw [if_pos (by omega), Nat.sub_zero]) ?_
  intro u2 M
  replace M : Mem ⟨w, []⟩ [⟨g1, .cells (av 7 (ls [.int .u8 69, .int .i64 20, .int .i64 2, .int .i64 8, .int .i64 9, .int .i64 12, .int .i64 0])) 60⟩] u2 := M
  refine pl_nil ?_
  refine au_then ?_
  refine wp_ret ?_
  exact bodyPost_ret (v := .agg (av 7 (ls [.int .u8 69, .int .i64 20, .int .i64 2, .int .i64 8, .int .i64 9, .int .i64 12, .int .i64 0]))) (results_cell_row Tryz.results37 _ _ g1 60 (av 7 (ls [.int .u8 69, .int .i64 20, .int .i64 2, .int .i64 8, .int .i64 9, .int .i64 12, .int .i64 0])) (0, 0) _ (by kernel_rfl) (M.get 0 rfl) Tryz.underlying60 rfl (by rw [av_size]; exact inz60)) (by kernel_rfl) ⟨rfl, below_grown M.old⟩

set_option maxRecDepth 100000 in
set_option maxHeartbeats 4000000 in
set_option linter.unusedSimpArgs false in
theorem c_May (v0 : Bool) (h0 l0 : Int) (v1 : Bool) (h1 l1 p t : Int) (s : ByteArray) (hs : s.size ≤ 200000) (w : World) (hL : Laid w)  :
    Calls Tryz.prog 12 #[.agg (av 9 (ls [.bool (v0), .int .u64 h0, .int .u64 l0, .bool (v1), .int .u64 h1, .int .u64 l1, .int .u8 p, .int .u8 t, .string s]))] w fun r w' => r = .returned (.int .i64 (my v0 h0 l0 v1 h1 l1 (s.size : Int))) ∧ Below w.heap.size w w' := by
  go_enter Tryz.func12, Tryz.ntmps12
  have M := Mem.start hL
  refine wp_seq ?_
  refine rg_lit ?_
  refine pl_new M (want_no rfl) (some 1) rfl (.cells (av 9 (ls [.bool (v0), .int .u64 h0, .int .u64 l0, .bool (v1), .int .u64 h1, .int .u64 l1, .int .u8 p, .int .u8 t, .string s])) 26) (fun _ => by kernel_rfl) ?_
  intro g1 u1 M
  replace M : Mem ⟨w, []⟩ [⟨g1, .cells (av 9 (ls [.bool (v0), .int .u64 h0, .int .u64 l0, .bool (v1), .int .u64 h1, .int .u64 l1, .int .u8 p, .int .u8 t, .string s])) 26⟩] u1 := M
  refine pl_val (want_no rfl) (some 2) rfl (.int .i64 0) (fun _ => by kernel_rfl) ?_
  refine pl_nil ?_
  refine au_then ?_
  refine wp_seq ?_
  refine wp_block ?_
  refine wp_seq ?_
  refine wp_seq ?_
  refine rg_lit ?_
  refine pl_val (want_no rfl) (some 4) rfl (.pointer (some ⟨g1, 0, none⟩)) (fun _ => by kernel_rfl) ?_
  refine pl_load M (want_no rfl) (some 5) rfl 24 _ rfl 0 g1 0 (by kernel_rfl) 9 26 (ls [.bool (v0), .int .u64 h0, .int .u64 l0, .bool (v1), .int .u64 h1, .int .u64 l1, .int .u8 p, .int .u8 t, .string s]) rfl 3 (ls [.bool (v0), .int .u64 h0, .int .u64 l0]) (part_ls _ 0 3 _ rfl) (by decide) _ Tryz.underlying24 rfl inz24 ?_
  rcases Bool.eq_false_or_eq_true (mA v0 h0 l0) with c0 | c0
  · skip
    refine pl_call M (want_no rfl) (some 6) rfl 36 #[.agg (av 3 (ls [.bool (v0), .int .u64 h0, .int .u64 l0]))] (.bool true) (fun _ => by kernel_rfl) (fun w M => call_val (c_mayAddr v0 h0 l0 w M.laid) (congrArg Value.bool c0)) ?_
    intro u2 M
    refine pl_val (want_no rfl) (some 7) rfl (.bool false) (fun _ => by kernel_rfl) ?_
    refine pl_val (want_no rfl) (some 3) rfl (.bool false) (fun _ => by kernel_rfl) ?_
    refine pl_nil ?_
    refine au_then ?_
    refine wp_cond_false (by kernel_rfl) ?_
    refine wp_seq ?_
    refine rg_lit ?_
    refine pl_val (want_no rfl) (some 8) rfl (.pointer (some ⟨g1, 3, none⟩)) (fun _ => by kernel_rfl) ?_
    refine pl_load M (want_no rfl) (some 9) rfl 24 _ rfl 0 g1 3 (by kernel_rfl) 9 26 (ls [.bool (v0), .int .u64 h0, .int .u64 l0, .bool (v1), .int .u64 h1, .int .u64 l1, .int .u8 p, .int .u8 t, .string s]) rfl 3 (ls [.bool (v1), .int .u64 h1, .int .u64 l1]) (part_ls _ 3 3 _ rfl) (by decide) _ Tryz.underlying24 rfl inz24 ?_
    rcases Bool.eq_false_or_eq_true (mA v1 h1 l1) with c1 | c1
    · skip
      refine pl_call M (want_no rfl) (some 10) rfl 36 #[.agg (av 3 (ls [.bool (v1), .int .u64 h1, .int .u64 l1]))] (.bool true) (fun _ => by kernel_rfl) (fun w M => call_val (c_mayAddr v1 h1 l1 w M.laid) (congrArg Value.bool c1)) ?_
      intro u3 M
      refine pl_val (want_no rfl) (some 11) rfl (.bool false) (fun _ => by kernel_rfl) ?_
      refine pl_val (want_no rfl) (some 3) rfl (.bool false) (fun _ => by kernel_rfl) ?_
      refine pl_nil ?_
      refine au_then ?_
      refine wp_cond_false (by kernel_rfl) ?_
      refine rg_lit ?_
      refine pl_val (want_no rfl) (some 12) rfl (.pointer (some ⟨g1, 0, none⟩)) (fun _ => by kernel_rfl) ?_
      refine pl_val (want_no rfl) (some 13) rfl (.pointer (some ⟨g1, 0, none⟩)) (fun _ => by kernel_rfl) ?_
      rcases Bool.eq_false_or_eq_true (v0) with c2 | c2
      · skip
        refine pl_cell M (want_no rfl) (some 14) rfl 4 _ rfl g1 0 (by kernel_rfl) (.bool true) (fun _ => by kernel_rfl) (fun w M => M.cell 0 rfl (by decide) (congrArg Value.bool c2)) ?_
        refine pl_val (want_no rfl) (some 15) rfl (.pointer (some ⟨g1, 3, none⟩)) (fun _ => by kernel_rfl) ?_
        refine pl_val (want_no rfl) (some 16) rfl (.pointer (some ⟨g1, 3, none⟩)) (fun _ => by kernel_rfl) ?_
        rcases Bool.eq_false_or_eq_true (v1) with c3 | c3
        · skip
          refine pl_cell M (want_no rfl) (some 17) rfl 4 _ rfl g1 3 (by kernel_rfl) (.bool true) (fun _ => by kernel_rfl) (fun w M => M.cell 0 rfl (by decide) (congrArg Value.bool c3)) ?_
          refine pl_val (want_no rfl) (some 18) rfl (.bool false) (fun _ => by kernel_rfl) ?_
          refine pl_val (want_no rfl) (some 3) rfl (.bool false) (fun _ => by kernel_rfl) ?_
          refine pl_nil ?_
          refine au_then ?_
          refine wp_cond_false (by kernel_rfl) ?_
          refine wp_seq ?_
          refine rg_tail M 10 (by kernel_rfl) (by kernel_rfl) ?_
          simp only [List.take_succ_cons, List.take_zero]
          refine k_val (want_no rfl) (some 20) rfl (.pointer (some ⟨g1, 8, none⟩)) (fun _ => by kernel_rfl) ?_
          refine k_cell M (want_no rfl) (some 21) rfl 9 _ rfl g1 8 (by kernel_rfl) (.string s) (fun _ => by kernel_rfl) (fun w M => M.cell 0 rfl (by decide) rfl) ?_
          refine k_val (want_no rfl) (some 22) rfl (.int .i64 (s.size : Int)) (fun _ => by kernel_rfl) ?_
          refine k_val (want_no rfl) (some 23) rfl (.pointer (some ⟨g1, 0, none⟩)) (fun _ => by kernel_rfl) ?_
          refine k_val (want_no rfl) (some 24) rfl (.pointer (some ⟨g1, 0, none⟩)) (fun _ => by kernel_rfl) ?_
          refine k_cell M (want_no rfl) (some 25) rfl 4 _ rfl g1 0 (by kernel_rfl) (.bool true) (fun _ => by kernel_rfl) (fun w M => M.cell 0 rfl (by decide) (congrArg Value.bool c2)) ?_
          refine k_call M (want_no rfl) (some 26) rfl 37 #[.bool true] (.agg (av 7 (ls [.int .u8 96, .int .i64 40, .int .i64 4, .int .i64 7, .int .i64 6, .int .i64 8, .int .i64 40]))) (fun _ => by kernel_rfl) (fun w M => c_layT w M.laid) ?_
          refine k_val (want_no rfl) (some 27) rfl (.int .i64 40) (fun _ => by kernel_rfl) ?_
          refine k_val (want_no rfl) (some 28) rfl (.int .i64 1460) (fun _ => by kernel_rfl) ?_
          by_cases c4 : 1460 < (s.size : Int)
          · skip
            refine k_val (want_no rfl) (some 29) rfl (.bool true) (fun w => Eq.trans (b := .ok (.value (.bool (decide (1460 < (s.size : Int))))) w) (by kernel_rfl) (by rw [decide_eq_true (c4)])) ?_
            refine kl_nil ?_
            intro u4 M
            replace M : Mem ⟨w, []⟩ [⟨g1, .cells (av 9 (ls [.bool (v0), .int .u64 h0, .int .u64 l0, .bool (v1), .int .u64 h1, .int .u64 l1, .int .u8 p, .int .u8 t, .string s])) 26⟩] u4 := M
            refine pl_val (want_no rfl) (some 19) rfl (.bool true) (fun _ => by kernel_rfl) ?_
            refine pl_nil ?_
            refine au_then ?_
            refine wp_cond_true (by kernel_rfl) ?_
            refine wp_seq ?_
            refine rg_lit ?_
            refine pl_val (want_no rfl) (some 2) rfl (.int .i64 4) (fun _ => by kernel_rfl) ?_
            refine pl_nil ?_
            refine au_then ?_
            refine wp_ret ?_
            refine au_block_ret ?_
            refine au_then_ret ?_
            have e0 : (my v0 h0 l0 v1 h1 l1 (s.size : Int)) = 4 := by unfold my; rw [c0, c1, c2, c3]; show (if 1500 < (40 : Int) + (s.size : Int) then (4 : Int) else 0) = _; exact if_pos (by omega)
            exact bodyPost_ret (v := .int .i64 4) (results_tmp1 Tryz.results12 _ _ _ (by kernel_rfl)) (by kernel_rfl) ⟨by simp only [e0], below_grown M.old⟩
          · skip
            refine k_val (want_no rfl) (some 29) rfl (.bool false) (fun w => Eq.trans (b := .ok (.value (.bool (decide (1460 < (s.size : Int))))) w) (by kernel_rfl) (by rw [decide_eq_false (c4)])) ?_
            refine kl_nil ?_
            intro u4 M
            replace M : Mem ⟨w, []⟩ [⟨g1, .cells (av 9 (ls [.bool (v0), .int .u64 h0, .int .u64 l0, .bool (v1), .int .u64 h1, .int .u64 l1, .int .u8 p, .int .u8 t, .string s])) 26⟩] u4 := M
            refine pl_val (want_no rfl) (some 19) rfl (.bool false) (fun _ => by kernel_rfl) ?_
            refine pl_nil ?_
            refine au_then ?_
            refine wp_cond_false (by kernel_rfl) ?_
            refine wp_skip ?_
            refine au_block ?_
            refine au_then ?_
            refine wp_seq ?_
            refine rg_lit ?_
            refine pl_val (want_no rfl) (some 2) rfl (.int .i64 0) (fun _ => by kernel_rfl) ?_
            refine pl_nil ?_
            refine au_then ?_
            refine wp_ret ?_
            have e0 : (my v0 h0 l0 v1 h1 l1 (s.size : Int)) = 0 := by unfold my; rw [c0, c1, c2, c3]; show (if 1500 < (40 : Int) + (s.size : Int) then (4 : Int) else 0) = _; exact if_neg (by omega)
            exact bodyPost_ret (v := .int .i64 0) (results_tmp1 Tryz.results12 _ _ _ (by kernel_rfl)) (by kernel_rfl) ⟨by simp only [e0], below_grown M.old⟩
        · skip
          refine pl_cell M (want_no rfl) (some 17) rfl 4 _ rfl g1 3 (by kernel_rfl) (.bool false) (fun _ => by kernel_rfl) (fun w M => M.cell 0 rfl (by decide) (congrArg Value.bool c3)) ?_
          refine pl_val (want_no rfl) (some 18) rfl (.bool true) (fun _ => by kernel_rfl) ?_
          refine pl_val (want_no rfl) (some 3) rfl (.bool true) (fun _ => by kernel_rfl) ?_
          refine pl_nil ?_
          refine au_then ?_
          refine wp_cond_true (by kernel_rfl) ?_
          refine wp_seq ?_
          refine rg_lit ?_
          refine pl_val (want_no rfl) (some 2) rfl (.int .i64 2) (fun _ => by kernel_rfl) ?_
          refine pl_nil ?_
          refine au_then ?_
          refine wp_ret ?_
          refine au_block_ret ?_
          refine au_then_ret ?_
          have e0 : (my v0 h0 l0 v1 h1 l1 (s.size : Int)) = 2 := by unfold my; rw [c0, c1, c2, c3] <;> rfl
          exact bodyPost_ret (v := .int .i64 2) (results_tmp1 Tryz.results12 _ _ _ (by kernel_rfl)) (by kernel_rfl) ⟨by simp only [e0], below_grown M.old⟩
      · skip
        refine pl_cell M (want_no rfl) (some 14) rfl 4 _ rfl g1 0 (by kernel_rfl) (.bool false) (fun _ => by kernel_rfl) (fun w M => M.cell 0 rfl (by decide) (congrArg Value.bool c2)) ?_
        refine pl_val (want_no rfl) (some 15) rfl (.pointer (some ⟨g1, 3, none⟩)) (fun _ => by kernel_rfl) ?_
        refine pl_val (want_no rfl) (some 16) rfl (.pointer (some ⟨g1, 3, none⟩)) (fun _ => by kernel_rfl) ?_
        rcases Bool.eq_false_or_eq_true (v1) with c3 | c3
        · skip
          refine pl_cell M (want_no rfl) (some 17) rfl 4 _ rfl g1 3 (by kernel_rfl) (.bool true) (fun _ => by kernel_rfl) (fun w M => M.cell 0 rfl (by decide) (congrArg Value.bool c3)) ?_
          refine pl_val (want_no rfl) (some 18) rfl (.bool true) (fun _ => by kernel_rfl) ?_
          refine pl_val (want_no rfl) (some 3) rfl (.bool true) (fun _ => by kernel_rfl) ?_
          refine pl_nil ?_
          refine au_then ?_
          refine wp_cond_true (by kernel_rfl) ?_
          refine wp_seq ?_
          refine rg_lit ?_
          refine pl_val (want_no rfl) (some 2) rfl (.int .i64 2) (fun _ => by kernel_rfl) ?_
          refine pl_nil ?_
          refine au_then ?_
          refine wp_ret ?_
          refine au_block_ret ?_
          refine au_then_ret ?_
          have e0 : (my v0 h0 l0 v1 h1 l1 (s.size : Int)) = 2 := by unfold my; rw [c0, c1, c2, c3] <;> rfl
          exact bodyPost_ret (v := .int .i64 2) (results_tmp1 Tryz.results12 _ _ _ (by kernel_rfl)) (by kernel_rfl) ⟨by simp only [e0], below_grown M.old⟩
        · skip
          refine pl_cell M (want_no rfl) (some 17) rfl 4 _ rfl g1 3 (by kernel_rfl) (.bool false) (fun _ => by kernel_rfl) (fun w M => M.cell 0 rfl (by decide) (congrArg Value.bool c3)) ?_
          refine pl_val (want_no rfl) (some 18) rfl (.bool false) (fun _ => by kernel_rfl) ?_
          refine pl_val (want_no rfl) (some 3) rfl (.bool false) (fun _ => by kernel_rfl) ?_
          refine pl_nil ?_
          refine au_then ?_
          refine wp_cond_false (by kernel_rfl) ?_
          refine wp_seq ?_
          refine rg_tail M 10 (by kernel_rfl) (by kernel_rfl) ?_
          simp only [List.take_succ_cons, List.take_zero]
          refine k_val (want_no rfl) (some 20) rfl (.pointer (some ⟨g1, 8, none⟩)) (fun _ => by kernel_rfl) ?_
          refine k_cell M (want_no rfl) (some 21) rfl 9 _ rfl g1 8 (by kernel_rfl) (.string s) (fun _ => by kernel_rfl) (fun w M => M.cell 0 rfl (by decide) rfl) ?_
          refine k_val (want_no rfl) (some 22) rfl (.int .i64 (s.size : Int)) (fun _ => by kernel_rfl) ?_
          refine k_val (want_no rfl) (some 23) rfl (.pointer (some ⟨g1, 0, none⟩)) (fun _ => by kernel_rfl) ?_
          refine k_val (want_no rfl) (some 24) rfl (.pointer (some ⟨g1, 0, none⟩)) (fun _ => by kernel_rfl) ?_
          refine k_cell M (want_no rfl) (some 25) rfl 4 _ rfl g1 0 (by kernel_rfl) (.bool false) (fun _ => by kernel_rfl) (fun w M => M.cell 0 rfl (by decide) (congrArg Value.bool c2)) ?_
          refine k_call M (want_no rfl) (some 26) rfl 37 #[.bool false] (.agg (av 7 (ls [.int .u8 69, .int .i64 20, .int .i64 2, .int .i64 8, .int .i64 9, .int .i64 12, .int .i64 0]))) (fun _ => by kernel_rfl) (fun w M => c_layF w M.laid) ?_
          refine k_val (want_no rfl) (some 27) rfl (.int .i64 20) (fun _ => by kernel_rfl) ?_
          refine k_val (want_no rfl) (some 28) rfl (.int .i64 1480) (fun _ => by kernel_rfl) ?_
          by_cases c4 : 1480 < (s.size : Int)
          · skip
            refine k_val (want_no rfl) (some 29) rfl (.bool true) (fun w => Eq.trans (b := .ok (.value (.bool (decide (1480 < (s.size : Int))))) w) (by kernel_rfl) (by rw [decide_eq_true (c4)])) ?_
            refine kl_nil ?_
            intro u4 M
            replace M : Mem ⟨w, []⟩ [⟨g1, .cells (av 9 (ls [.bool (v0), .int .u64 h0, .int .u64 l0, .bool (v1), .int .u64 h1, .int .u64 l1, .int .u8 p, .int .u8 t, .string s])) 26⟩] u4 := M
            refine pl_val (want_no rfl) (some 19) rfl (.bool true) (fun _ => by kernel_rfl) ?_
            refine pl_nil ?_
            refine au_then ?_
            refine wp_cond_true (by kernel_rfl) ?_
            refine wp_seq ?_
            refine rg_lit ?_
            refine pl_val (want_no rfl) (some 2) rfl (.int .i64 4) (fun _ => by kernel_rfl) ?_
            refine pl_nil ?_
            refine au_then ?_
            refine wp_ret ?_
            refine au_block_ret ?_
            refine au_then_ret ?_
            have e0 : (my v0 h0 l0 v1 h1 l1 (s.size : Int)) = 4 := by unfold my; rw [c0, c1, c2, c3]; show (if 1500 < (20 : Int) + (s.size : Int) then (4 : Int) else 0) = _; exact if_pos (by omega)
            exact bodyPost_ret (v := .int .i64 4) (results_tmp1 Tryz.results12 _ _ _ (by kernel_rfl)) (by kernel_rfl) ⟨by simp only [e0], below_grown M.old⟩
          · skip
            refine k_val (want_no rfl) (some 29) rfl (.bool false) (fun w => Eq.trans (b := .ok (.value (.bool (decide (1480 < (s.size : Int))))) w) (by kernel_rfl) (by rw [decide_eq_false (c4)])) ?_
            refine kl_nil ?_
            intro u4 M
            replace M : Mem ⟨w, []⟩ [⟨g1, .cells (av 9 (ls [.bool (v0), .int .u64 h0, .int .u64 l0, .bool (v1), .int .u64 h1, .int .u64 l1, .int .u8 p, .int .u8 t, .string s])) 26⟩] u4 := M
            refine pl_val (want_no rfl) (some 19) rfl (.bool false) (fun _ => by kernel_rfl) ?_
            refine pl_nil ?_
            refine au_then ?_
            refine wp_cond_false (by kernel_rfl) ?_
            refine wp_skip ?_
            refine au_block ?_
            refine au_then ?_
            refine wp_seq ?_
            refine rg_lit ?_
            refine pl_val (want_no rfl) (some 2) rfl (.int .i64 0) (fun _ => by kernel_rfl) ?_
            refine pl_nil ?_
            refine au_then ?_
            refine wp_ret ?_
            have e0 : (my v0 h0 l0 v1 h1 l1 (s.size : Int)) = 0 := by unfold my; rw [c0, c1, c2, c3]; show (if 1500 < (20 : Int) + (s.size : Int) then (4 : Int) else 0) = _; exact if_neg (by omega)
            exact bodyPost_ret (v := .int .i64 0) (results_tmp1 Tryz.results12 _ _ _ (by kernel_rfl)) (by kernel_rfl) ⟨by simp only [e0], below_grown M.old⟩
    · skip
      refine pl_call M (want_no rfl) (some 10) rfl 36 #[.agg (av 3 (ls [.bool (v1), .int .u64 h1, .int .u64 l1]))] (.bool false) (fun _ => by kernel_rfl) (fun w M => call_val (c_mayAddr v1 h1 l1 w M.laid) (congrArg Value.bool c1)) ?_
      intro u3 M
      refine pl_val (want_no rfl) (some 11) rfl (.bool true) (fun _ => by kernel_rfl) ?_
      refine pl_val (want_no rfl) (some 3) rfl (.bool true) (fun _ => by kernel_rfl) ?_
      refine pl_nil ?_
      refine au_then ?_
      refine wp_cond_true (by kernel_rfl) ?_
      refine wp_skip ?_
      refine au_then ?_
      refine wp_cond_true (by kernel_rfl) ?_
      refine wp_seq ?_
      refine rg_lit ?_
      refine pl_val (want_no rfl) (some 2) rfl (.int .i64 2) (fun _ => by kernel_rfl) ?_
      refine pl_nil ?_
      refine au_then ?_
      refine wp_ret ?_
      refine au_block_ret ?_
      refine au_then_ret ?_
      have e0 : (my v0 h0 l0 v1 h1 l1 (s.size : Int)) = 2 := by unfold my; rw [c0, c1] <;> rfl
      exact bodyPost_ret (v := .int .i64 2) (results_tmp1 Tryz.results12 _ _ _ (by kernel_rfl)) (by kernel_rfl) ⟨by simp only [e0], below_grown M.old⟩
  · skip
    refine pl_call M (want_no rfl) (some 6) rfl 36 #[.agg (av 3 (ls [.bool (v0), .int .u64 h0, .int .u64 l0]))] (.bool false) (fun _ => by kernel_rfl) (fun w M => call_val (c_mayAddr v0 h0 l0 w M.laid) (congrArg Value.bool c0)) ?_
    intro u2 M
    refine pl_val (want_no rfl) (some 7) rfl (.bool true) (fun _ => by kernel_rfl) ?_
    refine pl_val (want_no rfl) (some 3) rfl (.bool true) (fun _ => by kernel_rfl) ?_
    refine pl_nil ?_
    refine au_then ?_
    refine wp_cond_true (by kernel_rfl) ?_
    refine wp_skip ?_
    refine au_then ?_
    refine wp_cond_true (by kernel_rfl) ?_
    refine wp_seq ?_
    refine rg_lit ?_
    refine pl_val (want_no rfl) (some 2) rfl (.int .i64 2) (fun _ => by kernel_rfl) ?_
    refine pl_nil ?_
    refine au_then ?_
    refine wp_ret ?_
    refine au_block_ret ?_
    refine au_then_ret ?_
    have e0 : (my v0 h0 l0 v1 h1 l1 (s.size : Int)) = 2 := by unfold my; rw [c0] <;> rfl
    exact bodyPost_ret (v := .int .i64 2) (results_tmp1 Tryz.results12 _ _ _ (by kernel_rfl)) (by kernel_rfl) ⟨by simp only [e0], below_grown M.old⟩

set_option maxRecDepth 100000 in
set_option maxHeartbeats 4000000 in
set_option linter.unusedSimpArgs false in
theorem d_May (v0 : Bool) (h0 l0 : Int) (v1 : Bool) (h1 l1 p t : Int) (s : ByteArray) (hs : s.size ≤ 200000) (w : World) (hL : Laid w)  :
    Calls Tryz.prog 13 #[.agg (av 9 (ls [.bool (v0), .int .u64 h0, .int .u64 l0, .bool (v1), .int .u64 h1, .int .u64 l1, .int .u8 p, .int .u8 t, .string s]))] w fun r w' => r = .returned (.int .i64 (my v0 h0 l0 v1 h1 l1 (s.size : Int))) ∧ Below w.heap.size w w' := by
  go_enter Tryz.func13, Tryz.ntmps13
  have M := Mem.start hL
  refine wp_seq ?_
  refine rg_lit ?_
  refine pl_new M (want_no rfl) (some 1) rfl (.cells (av 9 (ls [.bool (v0), .int .u64 h0, .int .u64 l0, .bool (v1), .int .u64 h1, .int .u64 l1, .int .u8 p, .int .u8 t, .string s])) 26) (fun _ => by kernel_rfl) ?_
  intro g1 u1 M
  replace M : Mem ⟨w, []⟩ [⟨g1, .cells (av 9 (ls [.bool (v0), .int .u64 h0, .int .u64 l0, .bool (v1), .int .u64 h1, .int .u64 l1, .int .u8 p, .int .u8 t, .string s])) 26⟩] u1 := M
  refine pl_val (want_no rfl) (some 2) rfl (.int .i64 0) (fun _ => by kernel_rfl) ?_
  refine pl_nil ?_
  refine au_then ?_
  refine wp_seq ?_
  refine wp_seq ?_
  refine rg_lit ?_
  refine pl_val (want_no rfl) (some 4) rfl (.pointer (some ⟨g1, 0, none⟩)) (fun _ => by kernel_rfl) ?_
  refine pl_load M (want_no rfl) (some 5) rfl 24 _ rfl 0 g1 0 (by kernel_rfl) 9 26 (ls [.bool (v0), .int .u64 h0, .int .u64 l0, .bool (v1), .int .u64 h1, .int .u64 l1, .int .u8 p, .int .u8 t, .string s]) rfl 3 (ls [.bool (v0), .int .u64 h0, .int .u64 l0]) (part_ls _ 0 3 _ rfl) (by decide) _ Tryz.underlying24 rfl inz24 ?_
  rcases Bool.eq_false_or_eq_true (mA v0 h0 l0) with c0 | c0
  · skip
    refine pl_call M (want_no rfl) (some 6) rfl 38 #[.agg (av 3 (ls [.bool (v0), .int .u64 h0, .int .u64 l0]))] (.bool true) (fun _ => by kernel_rfl) (fun w M => call_val (d_MayAddr v0 h0 l0 w M.laid) (congrArg Value.bool c0)) ?_
    intro u2 M
    refine pl_val (want_no rfl) (some 7) rfl (.bool false) (fun _ => by kernel_rfl) ?_
    refine pl_val (want_no rfl) (some 8) rfl (.bool false) (fun _ => by kernel_rfl) ?_
    refine pl_val (want_on 4 false rfl 8 rfl (by kernel_rfl)) (some 9) rfl (.pointer (some ⟨g1, 3, none⟩)) (fun _ => by kernel_rfl) ?_
    refine pl_load M (want_on 4 false rfl 8 rfl (by kernel_rfl)) (some 10) rfl 24 _ rfl 0 g1 3 (by kernel_rfl) 9 26 (ls [.bool (v0), .int .u64 h0, .int .u64 l0, .bool (v1), .int .u64 h1, .int .u64 l1, .int .u8 p, .int .u8 t, .string s]) rfl 3 (ls [.bool (v1), .int .u64 h1, .int .u64 l1]) (part_ls _ 3 3 _ rfl) (by decide) _ Tryz.underlying24 rfl inz24 ?_
    rcases Bool.eq_false_or_eq_true (mA v1 h1 l1) with c1 | c1
    · skip
      refine pl_call M (want_on 4 false rfl 8 rfl (by kernel_rfl)) (some 11) rfl 38 #[.agg (av 3 (ls [.bool (v1), .int .u64 h1, .int .u64 l1]))] (.bool true) (fun _ => by kernel_rfl) (fun w M => call_val (d_MayAddr v1 h1 l1 w M.laid) (congrArg Value.bool c1)) ?_
      intro u3 M
      refine pl_val (want_on 4 false rfl 8 rfl (by kernel_rfl)) (some 12) rfl (.bool false) (fun _ => by kernel_rfl) ?_
      refine pl_val (want_no rfl) (some 13) rfl (.bool false) (fun _ => by kernel_rfl) ?_
      refine pl_val (want_no rfl) (some 14) rfl (.bool false) (fun _ => by kernel_rfl) ?_
      refine pl_val (want_on 10 false rfl 14 rfl (by kernel_rfl)) (some 15) rfl (.pointer (some ⟨g1, 0, none⟩)) (fun _ => by kernel_rfl) ?_
      refine pl_val (want_on 10 false rfl 14 rfl (by kernel_rfl)) (some 16) rfl (.pointer (some ⟨g1, 0, none⟩)) (fun _ => by kernel_rfl) ?_
      rcases Bool.eq_false_or_eq_true (v0) with c2 | c2
      · skip
        refine pl_cell M (want_on 10 false rfl 14 rfl (by kernel_rfl)) (some 17) rfl 4 _ rfl g1 0 (by kernel_rfl) (.bool true) (fun _ => by kernel_rfl) (fun w M => M.cell 0 rfl (by decide) (congrArg Value.bool c2)) ?_
        refine pl_val (want_on 10 false rfl 14 rfl (by kernel_rfl)) (some 18) rfl (.pointer (some ⟨g1, 3, none⟩)) (fun _ => by kernel_rfl) ?_
        refine pl_val (want_on 10 false rfl 14 rfl (by kernel_rfl)) (some 19) rfl (.pointer (some ⟨g1, 3, none⟩)) (fun _ => by kernel_rfl) ?_
        rcases Bool.eq_false_or_eq_true (v1) with c3 | c3
        · skip
          refine pl_cell M (want_on 10 false rfl 14 rfl (by kernel_rfl)) (some 20) rfl 4 _ rfl g1 3 (by kernel_rfl) (.bool true) (fun _ => by kernel_rfl) (fun w M => M.cell 0 rfl (by decide) (congrArg Value.bool c3)) ?_
          refine pl_val (want_on 10 false rfl 14 rfl (by kernel_rfl)) (some 21) rfl (.bool false) (fun _ => by kernel_rfl) ?_
          refine pl_val (want_no rfl) (some 22) rfl (.bool false) (fun _ => by kernel_rfl) ?_
          refine pl_nil ?_
          refine au_then ?_
          refine wp_cond_false (by kernel_rfl) ?_
          refine wp_skip ?_
          refine au_then ?_
          refine wp_seq ?_
          refine rg_lit ?_
          refine pl_val (want_no rfl) (some 3) rfl (.int .i64 20) (fun _ => by kernel_rfl) ?_
          refine pl_nil ?_
          refine au_then ?_
          refine wp_seq ?_
          refine wp_seq ?_
          refine rg_lit ?_
          refine pl_val (want_no rfl) (some 23) rfl (.pointer (some ⟨g1, 0, none⟩)) (fun _ => by kernel_rfl) ?_
          refine pl_val (want_no rfl) (some 24) rfl (.pointer (some ⟨g1, 0, none⟩)) (fun _ => by kernel_rfl) ?_
          refine pl_cell M (want_no rfl) (some 25) rfl 4 _ rfl g1 0 (by kernel_rfl) (.bool true) (fun _ => by kernel_rfl) (fun w M => M.cell 0 rfl (by decide) (congrArg Value.bool c2)) ?_
          refine pl_nil ?_
          refine au_then ?_
          refine wp_cond_true (by kernel_rfl) ?_
          refine rg_lit ?_
          refine pl_val (want_no rfl) (some 3) rfl (.int .i64 40) (fun _ => by kernel_rfl) ?_
          refine pl_nil ?_
          refine au_then ?_
          refine wp_seq ?_
          refine wp_seq ?_
          refine rg_lit ?_
          refine pl_val (want_no rfl) (some 26) rfl (.int .i64 40) (fun _ => by kernel_rfl) ?_
          refine pl_val (want_no rfl) (some 27) rfl (.pointer (some ⟨g1, 8, none⟩)) (fun _ => by kernel_rfl) ?_
          refine pl_cell M (want_no rfl) (some 28) rfl 9 _ rfl g1 8 (by kernel_rfl) (.string s) (fun _ => by kernel_rfl) (fun w M => M.cell 0 rfl (by decide) rfl) ?_
          refine pl_val (want_no rfl) (some 29) rfl (.int .i64 (s.size : Int)) (fun _ => by kernel_rfl) ?_
          refine pl_val (want_no rfl) (some 30) rfl (.int .i64 (40 + (s.size : Int))) (fun w => Eq.trans (b := .ok (.value (.int .i64 (IntKind.wrap .i64 (40 + (s.size : Int))))) w) (by kernel_rfl) (by rw [wrap64 (by omega) (by omega)])) ?_
          by_cases c4 : 1500 < (40 + (s.size : Int))
          · skip
            refine pl_val (want_no rfl) (some 31) rfl (.bool true) (fun w => Eq.trans (b := .ok (.value (.bool (decide (1500 < (40 + (s.size : Int)))))) w) (by kernel_rfl) (by rw [decide_eq_true (c4)])) ?_
            refine pl_nil ?_
            refine au_then ?_
            refine wp_cond_true (by kernel_rfl) ?_
            refine wp_seq ?_
            refine rg_lit ?_
            refine pl_val (want_no rfl) (some 2) rfl (.int .i64 4) (fun _ => by kernel_rfl) ?_
            refine pl_nil ?_
            refine au_then ?_
            refine wp_ret ?_
            refine au_then_ret ?_
            have e0 : (my v0 h0 l0 v1 h1 l1 (s.size : Int)) = 4 := by unfold my; rw [c0, c1, c2, c3]; show (if 1500 < (40 : Int) + (s.size : Int) then (4 : Int) else 0) = _; exact if_pos (by omega)
            exact bodyPost_ret (v := .int .i64 4) (results_tmp1 Tryz.results13 _ _ _ (by kernel_rfl)) (by kernel_rfl) ⟨by simp only [e0], below_grown M.old⟩
          · skip
            refine pl_val (want_no rfl) (some 31) rfl (.bool false) (fun w => Eq.trans (b := .ok (.value (.bool (decide (1500 < (40 + (s.size : Int)))))) w) (by kernel_rfl) (by rw [decide_eq_false (c4)])) ?_
            refine pl_nil ?_
            refine au_then ?_
            refine wp_cond_false (by kernel_rfl) ?_
            refine wp_skip ?_
            refine au_then ?_
            refine wp_seq ?_
            refine rg_lit ?_
            refine pl_val (want_no rfl) (some 2) rfl (.int .i64 0) (fun _ => by kernel_rfl) ?_
            refine pl_nil ?_
            refine au_then ?_
            refine wp_ret ?_
            have e0 : (my v0 h0 l0 v1 h1 l1 (s.size : Int)) = 0 := by unfold my; rw [c0, c1, c2, c3]; show (if 1500 < (40 : Int) + (s.size : Int) then (4 : Int) else 0) = _; exact if_neg (by omega)
            exact bodyPost_ret (v := .int .i64 0) (results_tmp1 Tryz.results13 _ _ _ (by kernel_rfl)) (by kernel_rfl) ⟨by simp only [e0], below_grown M.old⟩
        · skip
          refine pl_cell M (want_on 10 false rfl 14 rfl (by kernel_rfl)) (some 20) rfl 4 _ rfl g1 3 (by kernel_rfl) (.bool false) (fun _ => by kernel_rfl) (fun w M => M.cell 0 rfl (by decide) (congrArg Value.bool c3)) ?_
          refine pl_val (want_on 10 false rfl 14 rfl (by kernel_rfl)) (some 21) rfl (.bool true) (fun _ => by kernel_rfl) ?_
          refine pl_val (want_no rfl) (some 22) rfl (.bool true) (fun _ => by kernel_rfl) ?_
          refine pl_nil ?_
          refine au_then ?_
          refine wp_cond_true (by kernel_rfl) ?_
          refine wp_seq ?_
          refine rg_lit ?_
          refine pl_val (want_no rfl) (some 2) rfl (.int .i64 2) (fun _ => by kernel_rfl) ?_
          refine pl_nil ?_
          refine au_then ?_
          refine wp_ret ?_
          refine au_then_ret ?_
          have e0 : (my v0 h0 l0 v1 h1 l1 (s.size : Int)) = 2 := by unfold my; rw [c0, c1, c2, c3] <;> rfl
          exact bodyPost_ret (v := .int .i64 2) (results_tmp1 Tryz.results13 _ _ _ (by kernel_rfl)) (by kernel_rfl) ⟨by simp only [e0], below_grown M.old⟩
      · skip
        refine pl_cell M (want_on 10 false rfl 14 rfl (by kernel_rfl)) (some 17) rfl 4 _ rfl g1 0 (by kernel_rfl) (.bool false) (fun _ => by kernel_rfl) (fun w M => M.cell 0 rfl (by decide) (congrArg Value.bool c2)) ?_
        refine pl_val (want_on 10 false rfl 14 rfl (by kernel_rfl)) (some 18) rfl (.pointer (some ⟨g1, 3, none⟩)) (fun _ => by kernel_rfl) ?_
        refine pl_val (want_on 10 false rfl 14 rfl (by kernel_rfl)) (some 19) rfl (.pointer (some ⟨g1, 3, none⟩)) (fun _ => by kernel_rfl) ?_
        rcases Bool.eq_false_or_eq_true (v1) with c3 | c3
        · skip
          refine pl_cell M (want_on 10 false rfl 14 rfl (by kernel_rfl)) (some 20) rfl 4 _ rfl g1 3 (by kernel_rfl) (.bool true) (fun _ => by kernel_rfl) (fun w M => M.cell 0 rfl (by decide) (congrArg Value.bool c3)) ?_
          refine pl_val (want_on 10 false rfl 14 rfl (by kernel_rfl)) (some 21) rfl (.bool true) (fun _ => by kernel_rfl) ?_
          refine pl_val (want_no rfl) (some 22) rfl (.bool true) (fun _ => by kernel_rfl) ?_
          refine pl_nil ?_
          refine au_then ?_
          refine wp_cond_true (by kernel_rfl) ?_
          refine wp_seq ?_
          refine rg_lit ?_
          refine pl_val (want_no rfl) (some 2) rfl (.int .i64 2) (fun _ => by kernel_rfl) ?_
          refine pl_nil ?_
          refine au_then ?_
          refine wp_ret ?_
          refine au_then_ret ?_
          have e0 : (my v0 h0 l0 v1 h1 l1 (s.size : Int)) = 2 := by unfold my; rw [c0, c1, c2, c3] <;> rfl
          exact bodyPost_ret (v := .int .i64 2) (results_tmp1 Tryz.results13 _ _ _ (by kernel_rfl)) (by kernel_rfl) ⟨by simp only [e0], below_grown M.old⟩
        · skip
          refine pl_cell M (want_on 10 false rfl 14 rfl (by kernel_rfl)) (some 20) rfl 4 _ rfl g1 3 (by kernel_rfl) (.bool false) (fun _ => by kernel_rfl) (fun w M => M.cell 0 rfl (by decide) (congrArg Value.bool c3)) ?_
          refine pl_val (want_on 10 false rfl 14 rfl (by kernel_rfl)) (some 21) rfl (.bool false) (fun _ => by kernel_rfl) ?_
          refine pl_val (want_no rfl) (some 22) rfl (.bool false) (fun _ => by kernel_rfl) ?_
          refine pl_nil ?_
          refine au_then ?_
          refine wp_cond_false (by kernel_rfl) ?_
          refine wp_skip ?_
          refine au_then ?_
          refine wp_seq ?_
          refine rg_lit ?_
          refine pl_val (want_no rfl) (some 3) rfl (.int .i64 20) (fun _ => by kernel_rfl) ?_
          refine pl_nil ?_
          refine au_then ?_
          refine wp_seq ?_
          refine wp_seq ?_
          refine rg_lit ?_
          refine pl_val (want_no rfl) (some 23) rfl (.pointer (some ⟨g1, 0, none⟩)) (fun _ => by kernel_rfl) ?_
          refine pl_val (want_no rfl) (some 24) rfl (.pointer (some ⟨g1, 0, none⟩)) (fun _ => by kernel_rfl) ?_
          refine pl_cell M (want_no rfl) (some 25) rfl 4 _ rfl g1 0 (by kernel_rfl) (.bool false) (fun _ => by kernel_rfl) (fun w M => M.cell 0 rfl (by decide) (congrArg Value.bool c2)) ?_
          refine pl_nil ?_
          refine au_then ?_
          refine wp_cond_false (by kernel_rfl) ?_
          refine wp_skip ?_
          refine au_then ?_
          refine wp_seq ?_
          refine wp_seq ?_
          refine rg_lit ?_
          refine pl_val (want_no rfl) (some 26) rfl (.int .i64 20) (fun _ => by kernel_rfl) ?_
          refine pl_val (want_no rfl) (some 27) rfl (.pointer (some ⟨g1, 8, none⟩)) (fun _ => by kernel_rfl) ?_
          refine pl_cell M (want_no rfl) (some 28) rfl 9 _ rfl g1 8 (by kernel_rfl) (.string s) (fun _ => by kernel_rfl) (fun w M => M.cell 0 rfl (by decide) rfl) ?_
          refine pl_val (want_no rfl) (some 29) rfl (.int .i64 (s.size : Int)) (fun _ => by kernel_rfl) ?_
          refine pl_val (want_no rfl) (some 30) rfl (.int .i64 (20 + (s.size : Int))) (fun w => Eq.trans (b := .ok (.value (.int .i64 (IntKind.wrap .i64 (20 + (s.size : Int))))) w) (by kernel_rfl) (by rw [wrap64 (by omega) (by omega)])) ?_
          by_cases c4 : 1500 < (20 + (s.size : Int))
          · skip
            refine pl_val (want_no rfl) (some 31) rfl (.bool true) (fun w => Eq.trans (b := .ok (.value (.bool (decide (1500 < (20 + (s.size : Int)))))) w) (by kernel_rfl) (by rw [decide_eq_true (c4)])) ?_
            refine pl_nil ?_
            refine au_then ?_
            refine wp_cond_true (by kernel_rfl) ?_
            refine wp_seq ?_
            refine rg_lit ?_
            refine pl_val (want_no rfl) (some 2) rfl (.int .i64 4) (fun _ => by kernel_rfl) ?_
            refine pl_nil ?_
            refine au_then ?_
            refine wp_ret ?_
            refine au_then_ret ?_
            have e0 : (my v0 h0 l0 v1 h1 l1 (s.size : Int)) = 4 := by unfold my; rw [c0, c1, c2, c3]; show (if 1500 < (20 : Int) + (s.size : Int) then (4 : Int) else 0) = _; exact if_pos (by omega)
            exact bodyPost_ret (v := .int .i64 4) (results_tmp1 Tryz.results13 _ _ _ (by kernel_rfl)) (by kernel_rfl) ⟨by simp only [e0], below_grown M.old⟩
          · skip
            refine pl_val (want_no rfl) (some 31) rfl (.bool false) (fun w => Eq.trans (b := .ok (.value (.bool (decide (1500 < (20 + (s.size : Int)))))) w) (by kernel_rfl) (by rw [decide_eq_false (c4)])) ?_
            refine pl_nil ?_
            refine au_then ?_
            refine wp_cond_false (by kernel_rfl) ?_
            refine wp_skip ?_
            refine au_then ?_
            refine wp_seq ?_
            refine rg_lit ?_
            refine pl_val (want_no rfl) (some 2) rfl (.int .i64 0) (fun _ => by kernel_rfl) ?_
            refine pl_nil ?_
            refine au_then ?_
            refine wp_ret ?_
            have e0 : (my v0 h0 l0 v1 h1 l1 (s.size : Int)) = 0 := by unfold my; rw [c0, c1, c2, c3]; show (if 1500 < (20 : Int) + (s.size : Int) then (4 : Int) else 0) = _; exact if_neg (by omega)
            exact bodyPost_ret (v := .int .i64 0) (results_tmp1 Tryz.results13 _ _ _ (by kernel_rfl)) (by kernel_rfl) ⟨by simp only [e0], below_grown M.old⟩
    · skip
      refine pl_call M (want_on 4 false rfl 8 rfl (by kernel_rfl)) (some 11) rfl 38 #[.agg (av 3 (ls [.bool (v1), .int .u64 h1, .int .u64 l1]))] (.bool false) (fun _ => by kernel_rfl) (fun w M => call_val (d_MayAddr v1 h1 l1 w M.laid) (congrArg Value.bool c1)) ?_
      intro u3 M
      refine pl_val (want_on 4 false rfl 8 rfl (by kernel_rfl)) (some 12) rfl (.bool true) (fun _ => by kernel_rfl) ?_
      refine pl_val (want_no rfl) (some 13) rfl (.bool true) (fun _ => by kernel_rfl) ?_
      refine pl_val (want_no rfl) (some 14) rfl (.bool true) (fun _ => by kernel_rfl) ?_
      refine pl_skip (want_off 10 false rfl 14 rfl (by kernel_rfl)) (some 15) rfl ?_
      refine pl_skip (want_off 10 false rfl 14 rfl (by kernel_rfl)) (some 16) rfl ?_
      refine pl_skip (want_off 10 false rfl 14 rfl (by kernel_rfl)) (some 17) rfl ?_
      refine pl_skip (want_off 10 false rfl 14 rfl (by kernel_rfl)) (some 18) rfl ?_
      refine pl_skip (want_off 10 false rfl 14 rfl (by kernel_rfl)) (some 19) rfl ?_
      refine pl_skip (want_off 10 false rfl 14 rfl (by kernel_rfl)) (some 20) rfl ?_
      refine pl_skip (want_off 10 false rfl 14 rfl (by kernel_rfl)) (some 21) rfl ?_
      refine pl_val (want_no rfl) (some 22) rfl (.bool true) (fun _ => by kernel_rfl) ?_
      refine pl_nil ?_
      refine au_then ?_
      refine wp_cond_true (by kernel_rfl) ?_
      refine wp_seq ?_
      refine rg_lit ?_
      refine pl_val (want_no rfl) (some 2) rfl (.int .i64 2) (fun _ => by kernel_rfl) ?_
      refine pl_nil ?_
      refine au_then ?_
      refine wp_ret ?_
      refine au_then_ret ?_
      have e0 : (my v0 h0 l0 v1 h1 l1 (s.size : Int)) = 2 := by unfold my; rw [c0, c1] <;> rfl
      exact bodyPost_ret (v := .int .i64 2) (results_tmp1 Tryz.results13 _ _ _ (by kernel_rfl)) (by kernel_rfl) ⟨by simp only [e0], below_grown M.old⟩
  · skip
    refine pl_call M (want_no rfl) (some 6) rfl 38 #[.agg (av 3 (ls [.bool (v0), .int .u64 h0, .int .u64 l0]))] (.bool false) (fun _ => by kernel_rfl) (fun w M => call_val (d_MayAddr v0 h0 l0 w M.laid) (congrArg Value.bool c0)) ?_
    intro u2 M
    refine pl_val (want_no rfl) (some 7) rfl (.bool true) (fun _ => by kernel_rfl) ?_
    refine pl_val (want_no rfl) (some 8) rfl (.bool true) (fun _ => by kernel_rfl) ?_
    refine pl_skip (want_off 4 false rfl 8 rfl (by kernel_rfl)) (some 9) rfl ?_
    refine pl_skip (want_off 4 false rfl 8 rfl (by kernel_rfl)) (some 10) rfl ?_
    refine pl_skip (want_off 4 false rfl 8 rfl (by kernel_rfl)) (some 11) rfl ?_
    refine pl_skip (want_off 4 false rfl 8 rfl (by kernel_rfl)) (some 12) rfl ?_
    refine pl_val (want_no rfl) (some 13) rfl (.bool true) (fun _ => by kernel_rfl) ?_
    refine pl_val (want_no rfl) (some 14) rfl (.bool true) (fun _ => by kernel_rfl) ?_
    refine pl_skip (want_off 10 false rfl 14 rfl (by kernel_rfl)) (some 15) rfl ?_
    refine pl_skip (want_off 10 false rfl 14 rfl (by kernel_rfl)) (some 16) rfl ?_
    refine pl_skip (want_off 10 false rfl 14 rfl (by kernel_rfl)) (some 17) rfl ?_
    refine pl_skip (want_off 10 false rfl 14 rfl (by kernel_rfl)) (some 18) rfl ?_
    refine pl_skip (want_off 10 false rfl 14 rfl (by kernel_rfl)) (some 19) rfl ?_
    refine pl_skip (want_off 10 false rfl 14 rfl (by kernel_rfl)) (some 20) rfl ?_
    refine pl_skip (want_off 10 false rfl 14 rfl (by kernel_rfl)) (some 21) rfl ?_
    refine pl_val (want_no rfl) (some 22) rfl (.bool true) (fun _ => by kernel_rfl) ?_
    refine pl_nil ?_
    refine au_then ?_
    refine wp_cond_true (by kernel_rfl) ?_
    refine wp_seq ?_
    refine rg_lit ?_
    refine pl_val (want_no rfl) (some 2) rfl (.int .i64 2) (fun _ => by kernel_rfl) ?_
    refine pl_nil ?_
    refine au_then ?_
    refine wp_ret ?_
    refine au_then_ret ?_
    have e0 : (my v0 h0 l0 v1 h1 l1 (s.size : Int)) = 2 := by unfold my; rw [c0] <;> rfl
    exact bodyPost_ret (v := .int .i64 2) (results_tmp1 Tryz.results13 _ _ _ (by kernel_rfl)) (by kernel_rfl) ⟨by simp only [e0], below_grown M.old⟩

set_option maxRecDepth 100000 in
set_option maxHeartbeats 4000000 in
set_option linter.unusedSimpArgs false in
theorem c_addrBytes (v : Bool) (h l : Int) (w : World) (hL : Laid w)  :
    Calls Tryz.prog 58 #[.agg (av 3 (ls [.bool (v), .int .u64 h, .int .u64 l]))] w fun r w' => r = .returned (.string (aB v h l)) ∧ Below w.heap.size w w' := by
  go_enter Tryz.func58, Tryz.ntmps58
  have M := Mem.start hL
  refine wp_seq ?_
  refine rg_lit ?_
  refine pl_new M (want_no rfl) (some 1) rfl (.cells (av 3 (ls [.bool (v), .int .u64 h, .int .u64 l])) 24) (fun _ => by kernel_rfl) ?_
  intro g1 u1 M
  replace M : Mem ⟨w, []⟩ [⟨g1, .cells (av 3 (ls [.bool (v), .int .u64 h, .int .u64 l])) 24⟩] u1 := M
  refine pl_val (want_no rfl) (some 2) rfl (.string ⟨#[]⟩) (fun _ => by kernel_rfl) ?_
  refine pl_nil ?_
  refine au_then ?_
  refine wp_seq ?_
  refine wp_seq ?_
  refine rg_lit ?_
  refine pl_val (want_no rfl) (some 3) rfl (.pointer (some ⟨g1, 0, none⟩)) (fun _ => by kernel_rfl) ?_
  rcases Bool.eq_false_or_eq_true (v) with c0 | c0
  · skip
    refine pl_cell M (want_no rfl) (some 4) rfl 4 _ rfl g1 0 (by kernel_rfl) (.bool true) (fun _ => by kernel_rfl) (fun w M => M.cell 0 rfl (by decide) (congrArg Value.bool c0)) ?_
    refine pl_nil ?_
    refine au_then ?_
    refine wp_cond_true (by kernel_rfl) ?_
    refine wp_seq ?_
    refine rg_tail M 7 (by kernel_rfl) (by kernel_rfl) ?_
    simp only [List.take_succ_cons, List.take_zero]
    refine k_val (want_no rfl) (some 5) rfl (.pointer (some ⟨g1, 1, none⟩)) (fun _ => by kernel_rfl) ?_
    refine k_cell M (want_no rfl) (some 6) rfl 22 _ rfl g1 1 (by kernel_rfl) (.int .u64 h) (fun _ => by kernel_rfl) (fun w M => M.cell 0 rfl (by decide) rfl) ?_
    refine k_call M (want_no rfl) (some 7) rfl 79 #[.int .u64 h] (.string (be8 h)) (fun _ => by kernel_rfl) (fun w M => c_U64 h w M.laid) ?_
    refine k_val (want_no rfl) (some 8) rfl (.pointer (some ⟨g1, 2, none⟩)) (fun _ => by kernel_rfl) ?_
    refine k_cell M (want_no rfl) (some 9) rfl 22 _ rfl g1 2 (by kernel_rfl) (.int .u64 l) (fun _ => by kernel_rfl) (fun w M => M.cell 0 rfl (by decide) rfl) ?_
    refine k_call M (want_no rfl) (some 10) rfl 79 #[.int .u64 l] (.string (be8 l)) (fun _ => by kernel_rfl) (fun w M => c_U64 l w M.laid) ?_
    refine k_val (want_no rfl) (some 11) rfl (.string ((be8 h) ++ (be8 l))) (run_cat 9 9 _ _ rfl (be8 h) (be8 l) (by kernel_rfl) (by kernel_rfl) (by rw [be8_size, be8_size]; decide)) ?_
    refine kl_nil ?_
    intro u2 M
    replace M : Mem ⟨w, []⟩ [⟨g1, .cells (av 3 (ls [.bool (v), .int .u64 h, .int .u64 l])) 24⟩] u2 := M
    refine pl_val (want_no rfl) (some 2) rfl (.string ((be8 h) ++ (be8 l))) (fun _ => by kernel_rfl) ?_
    refine pl_nil ?_
    refine au_then ?_
    refine wp_ret ?_
    refine au_then_ret ?_
    have e0 : (aB v h l) = ((be8 h) ++ (be8 l)) := by simp [aB, c0]
    exact bodyPost_ret (v := .string ((be8 h) ++ (be8 l))) (results_tmp1 Tryz.results58 _ _ _ (by kernel_rfl)) (by kernel_rfl) ⟨by simp only [e0], below_grown M.old⟩
  · skip
    refine pl_cell M (want_no rfl) (some 4) rfl 4 _ rfl g1 0 (by kernel_rfl) (.bool false) (fun _ => by kernel_rfl) (fun w M => M.cell 0 rfl (by decide) (congrArg Value.bool c0)) ?_
    refine pl_nil ?_
    refine au_then ?_
    refine wp_cond_false (by kernel_rfl) ?_
    refine wp_skip ?_
    refine au_then ?_
    refine wp_seq ?_
    refine rg_lit ?_
    refine pl_val (want_no rfl) (some 12) rfl (.pointer (some ⟨g1, 2, none⟩)) (fun _ => by kernel_rfl) ?_
    refine pl_cell M (want_no rfl) (some 13) rfl 22 _ rfl g1 2 (by kernel_rfl) (.int .u64 l) (fun _ => by kernel_rfl) (fun w M => M.cell 0 rfl (by decide) rfl) ?_
    refine pl_val (want_no rfl) (some 14) rfl (.int .u32 (cv .u32 l)) (fun _ => by kernel_rfl) ?_
    refine pl_call M (want_no rfl) (some 15) rfl 80 #[.int .u32 (cv .u32 l)] (.string (be4 (cv .u64 (cv .u32 l)))) (fun _ => by kernel_rfl) (fun w M => c_U32 (cv .u32 l) w M.laid) ?_
    intro u2 M
    refine pl_val (want_no rfl) (some 2) rfl (.string (be4 (cv .u64 (cv .u32 l)))) (fun _ => by kernel_rfl) ?_
    refine pl_nil ?_
    refine au_then ?_
    refine wp_ret ?_
    have e0 : (aB v h l) = (be4 (cv .u64 (cv .u32 l))) := by simp [aB, c0]
    exact bodyPost_ret (v := .string (be4 (cv .u64 (cv .u32 l)))) (results_tmp1 Tryz.results58 _ _ _ (by kernel_rfl)) (by kernel_rfl) ⟨by simp only [e0], below_grown M.old⟩

set_option maxRecDepth 100000 in
set_option maxHeartbeats 4000000 in
set_option linter.unusedSimpArgs false in
theorem d_Bytes (v : Bool) (h l : Int) (w : World) (hL : Laid w)  :
    Calls Tryz.prog 35 #[.agg (av 3 (ls [.bool (v), .int .u64 h, .int .u64 l]))] w fun r w' => r = .returned (.string (dB v h l)) ∧ Below w.heap.size w w' := by
  go_enter Tryz.func35, Tryz.ntmps35
  have M := Mem.start hL
  refine wp_seq ?_
  refine rg_lit ?_
  refine pl_new M (want_no rfl) (some 1) rfl (.cells (av 3 (ls [.bool (v), .int .u64 h, .int .u64 l])) 24) (fun _ => by kernel_rfl) ?_
  intro g1 u1 M
  replace M : Mem ⟨w, []⟩ [⟨g1, .cells (av 3 (ls [.bool (v), .int .u64 h, .int .u64 l])) 24⟩] u1 := M
  refine pl_val (want_no rfl) (some 2) rfl (.string ⟨#[]⟩) (fun _ => by kernel_rfl) ?_
  refine pl_nil ?_
  refine au_then ?_
  refine wp_seq ?_
  refine wp_seq ?_
  refine rg_lit ?_
  refine pl_val (want_no rfl) (some 3) rfl (.pointer (some ⟨g1, 0, none⟩)) (fun _ => by kernel_rfl) ?_
  rcases Bool.eq_false_or_eq_true (v) with c0 | c0
  · skip
    refine pl_cell M (want_no rfl) (some 4) rfl 4 _ rfl g1 0 (by kernel_rfl) (.bool true) (fun _ => by kernel_rfl) (fun w M => M.cell 0 rfl (by decide) (congrArg Value.bool c0)) ?_
    refine pl_nil ?_
    refine au_then ?_
    refine wp_cond_true (by kernel_rfl) ?_
    refine wp_seq ?_
    refine rg_tail M 7 (by kernel_rfl) (by kernel_rfl) ?_
    simp only [List.take_succ_cons, List.take_zero]
    refine k_val (want_no rfl) (some 5) rfl (.pointer (some ⟨g1, 1, none⟩)) (fun _ => by kernel_rfl) ?_
    refine k_cell M (want_no rfl) (some 6) rfl 22 _ rfl g1 1 (by kernel_rfl) (.int .u64 h) (fun _ => by kernel_rfl) (fun w M => M.cell 0 rfl (by decide) rfl) ?_
    refine k_call M (want_no rfl) (some 7) rfl 34 #[.int .u64 h, .int .i64 8] (.string (be8 h)) (fun _ => by kernel_rfl) (fun w M => c_num8 h w M.laid) ?_
    refine k_val (want_no rfl) (some 8) rfl (.pointer (some ⟨g1, 2, none⟩)) (fun _ => by kernel_rfl) ?_
    refine k_cell M (want_no rfl) (some 9) rfl 22 _ rfl g1 2 (by kernel_rfl) (.int .u64 l) (fun _ => by kernel_rfl) (fun w M => M.cell 0 rfl (by decide) rfl) ?_
    refine k_call M (want_no rfl) (some 10) rfl 34 #[.int .u64 l, .int .i64 8] (.string (be8 l)) (fun _ => by kernel_rfl) (fun w M => c_num8 l w M.laid) ?_
    refine k_val (want_no rfl) (some 11) rfl (.string ((be8 h) ++ (be8 l))) (run_cat 9 9 _ _ rfl (be8 h) (be8 l) (by kernel_rfl) (by kernel_rfl) (by rw [be8_size, be8_size]; decide)) ?_
    refine kl_nil ?_
    intro u2 M
    replace M : Mem ⟨w, []⟩ [⟨g1, .cells (av 3 (ls [.bool (v), .int .u64 h, .int .u64 l])) 24⟩] u2 := M
    refine pl_val (want_no rfl) (some 2) rfl (.string ((be8 h) ++ (be8 l))) (fun _ => by kernel_rfl) ?_
    refine pl_nil ?_
    refine au_then ?_
    refine wp_ret ?_
    refine au_then_ret ?_
    have e0 : (dB v h l) = ((be8 h) ++ (be8 l)) := by simp [dB, c0]
    exact bodyPost_ret (v := .string ((be8 h) ++ (be8 l))) (results_tmp1 Tryz.results35 _ _ _ (by kernel_rfl)) (by kernel_rfl) ⟨by simp only [e0], below_grown M.old⟩
  · skip
    refine pl_cell M (want_no rfl) (some 4) rfl 4 _ rfl g1 0 (by kernel_rfl) (.bool false) (fun _ => by kernel_rfl) (fun w M => M.cell 0 rfl (by decide) (congrArg Value.bool c0)) ?_
    refine pl_nil ?_
    refine au_then ?_
    refine wp_cond_false (by kernel_rfl) ?_
    refine wp_skip ?_
    refine au_then ?_
    refine wp_seq ?_
    refine rg_lit ?_
    refine pl_val (want_no rfl) (some 12) rfl (.pointer (some ⟨g1, 2, none⟩)) (fun _ => by kernel_rfl) ?_
    refine pl_cell M (want_no rfl) (some 13) rfl 22 _ rfl g1 2 (by kernel_rfl) (.int .u64 l) (fun _ => by kernel_rfl) (fun w M => M.cell 0 rfl (by decide) rfl) ?_
    refine pl_call M (want_no rfl) (some 14) rfl 34 #[.int .u64 l, .int .i64 4] (.string (be4 l)) (fun _ => by kernel_rfl) (fun w M => c_num4 l w M.laid) ?_
    intro u2 M
    refine pl_val (want_no rfl) (some 2) rfl (.string (be4 l)) (fun _ => by kernel_rfl) ?_
    refine pl_nil ?_
    refine au_then ?_
    refine wp_ret ?_
    have e0 : (dB v h l) = (be4 l) := by simp [dB, c0]
    exact bodyPost_ret (v := .string (be4 l)) (results_tmp1 Tryz.results35 _ _ _ (by kernel_rfl)) (by kernel_rfl) ⟨by simp only [e0], below_grown M.old⟩

def f6a (h0 l0 h1 l1 p t : Int) (s : ByteArray) : Nat → Int := (upd (upd (cpy (upd (cpy (fun _ => 0) 8 (32 + s.size) (((aB true h0 l0) ++ (aB true h1 l1)) ++ s)) 0 96) 4 2 (be2 (cv .u64 ((s.size : Nat) : Int)))) 7 t) 6 p)
theorem NB_f6a (h0 l0 h1 l1 p t : Int) (s : ByteArray) (hp : 0 ≤ p ∧ p < 256) (ht : 0 ≤ t ∧ t < 256) : NB (f6a h0 l0 h1 l1 p t s) := (((((NB.z.c _ _ _).u _ (by decide)).c _ _ _).u _ ht).u _ hp)
def f6o (h0 l0 h1 l1 p t : Int) (s : ByteArray) : ByteArray := bs ((List.range (40 + s.size)).map (f6a h0 l0 h1 l1 p t s))
set_option maxRecDepth 100000 in
set_option maxHeartbeats 4000000 in
set_option linter.unusedSimpArgs false in
theorem c_bytesSix (h0 l0 h1 l1 p t : Int) (s : ByteArray) (hs : s.size ≤ 1460) (hp : 0 ≤ p ∧ p < 256) (ht : 0 ≤ t ∧ t < 256) (w : World) (hL : Laid w)  :
    Calls Tryz.prog 33 #[.agg (av 9 (ls [.bool true, .int .u64 h0, .int .u64 l0, .bool true, .int .u64 h1, .int .u64 l1, .int .u8 p, .int .u8 t, .string s]))] w fun r w' => r = .returned (.string (f6o h0 l0 h1 l1 p t s)) ∧ Below w.heap.size w w' := by
  go_enter Tryz.func33, Tryz.ntmps33
  have M := Mem.start hL
  refine wp_seq ?_
  refine rg_lit ?_
  refine pl_new M (want_no rfl) (some 1) rfl (.cells (av 9 (ls [.bool true, .int .u64 h0, .int .u64 l0, .bool true, .int .u64 h1, .int .u64 l1, .int .u8 p, .int .u8 t, .string s])) 26) (fun _ => by kernel_rfl) ?_
  intro g1 u1 M
  replace M : Mem ⟨w, []⟩ [⟨g1, .cells (av 9 (ls [.bool true, .int .u64 h0, .int .u64 l0, .bool true, .int .u64 h1, .int .u64 l1, .int .u8 p, .int .u8 t, .string s])) 26⟩] u1 := M
  refine pl_val (want_no rfl) (some 2) rfl (.string ⟨#[]⟩) (fun _ => by kernel_rfl) ?_
  refine pl_nil ?_
  refine au_then ?_
  refine wp_seq ?_
  refine rg_lit ?_
  refine pl_new M (want_no rfl) (some 3) rfl (.cells (av 1500 (w8 (fun _ => 0))) 80) (fun _ => by kernel_rfl) ?_
  intro g2 u2 M
  replace M : Mem ⟨w, []⟩ [⟨g1, .cells (av 9 (ls [.bool true, .int .u64 h0, .int .u64 l0, .bool true, .int .u64 h1, .int .u64 l1, .int .u8 p, .int .u8 t, .string s])) 26⟩, ⟨g2, .cells (av 1500 (w8 (fun _ => 0))) 80⟩] u2 := M
  refine pl_nil ?_
  refine au_then ?_
  refine wp_seq ?_
  refine rg_lit ?_
  refine pl_val (want_no rfl) (some 6) rfl (.pointer (some ⟨g1, 0, none⟩)) (fun _ => by kernel_rfl) ?_
  refine pl_val (want_no rfl) (some 7) rfl (.pointer (some ⟨g1, 0, none⟩)) (fun _ => by kernel_rfl) ?_
  refine pl_cell M (want_no rfl) (some 8) rfl 4 _ rfl g1 0 (by kernel_rfl) (.bool true) (fun _ => by kernel_rfl) (fun w M => M.cell 0 rfl (by decide) rfl) ?_
  refine pl_call M (want_no rfl) (some 9) rfl 37 #[.bool true] (.agg (av 7 (ls [.int .u8 96, .int .i64 40, .int .i64 4, .int .i64 7, .int .i64 6, .int .i64 8, .int .i64 40]))) (fun _ => by kernel_rfl) (fun w M => c_layT w M.laid) ?_
  intro u3 M
  refine pl_new M (want_no rfl) (some 4) rfl (.cells (av 7 (ls [.int .u8 0, .int .i64 0, .int .i64 0, .int .i64 0, .int .i64 0, .int .i64 0, .int .i64 0])) 60) (fun _ => by kernel_rfl) ?_
  intro g3 u4 M
  replace M : Mem ⟨w, []⟩ [⟨g1, .cells (av 9 (ls [.bool true, .int .u64 h0, .int .u64 l0, .bool true, .int .u64 h1, .int .u64 l1, .int .u8 p, .int .u8 t, .string s])) 26⟩, ⟨g2, .cells (av 1500 (w8 (fun _ => 0))) 80⟩, ⟨g3, .cells (av 7 (ls [.int .u8 0, .int .i64 0, .int .i64 0, .int .i64 0, .int .i64 0, .int .i64 0, .int .i64 0])) 60⟩] u4 := M
  refine pl_put M (want_no rfl) rfl 60 _ _ rfl 2 g3 0 (by kernel_rfl) 7 60 (ls [.int .u8 0, .int .i64 0, .int .i64 0, .int .i64 0, .int .i64 0, .int .i64 0, .int .i64 0]) rfl 7 (ls [.int .u8 96, .int .i64 40, .int .i64 4, .int .i64 7, .int .i64 6, .int .i64 8, .int .i64 40]) (ls [.int .u8 96, .int .i64 40, .int .i64 4, .int .i64 7, .int .i64 6, .int .i64 8, .int .i64 40]) (by kernel_rfl) inz60 (by decide) (one_ls _ rfl) (fun j hj => by rw [if_pos (by omega), Nat.sub_zero]) ?_
  intro u5 M
  replace M : Mem ⟨w, []⟩ [⟨g1, .cells (av 9 (ls [.bool true, .int .u64 h0, .int .u64 l0, .bool true, .int .u64 h1, .int .u64 l1, .int .u8 p, .int .u8 t, .string s])) 26⟩, ⟨g2, .cells (av 1500 (w8 (fun _ => 0))) 80⟩, ⟨g3, .cells (av 7 (ls [.int .u8 96, .int .i64 40, .int .i64 4, .int .i64 7, .int .i64 6, .int .i64 8, .int .i64 40])) 60⟩] u5 := M
  refine pl_nil ?_
  refine au_then ?_
  refine wp_seq ?_
  refine rg_held M [⟨g1, .cells (av 9 (ls [.bool true, .int .u64 h0, .int .u64 l0, .bool true, .int .u64 h1, .int .u64 l1, .int .u8 p, .int .u8 t, .string s])) 26⟩, ⟨g3, .cells (av 7 (ls [.int .u8 96, .int .i64 40, .int .i64 4, .int .i64 7, .int .i64 6, .int .i64 8, .int .i64 40])) 60⟩] 17 rfl (by kernel_rfl) (by kernel_rfl) (fun _ _ d _ _ h => by cases d <;> exact h) ?_
  intro u6 M
  replace M : Mem ⟨w, []⟩ [⟨g1, .cells (av 9 (ls [.bool true, .int .u64 h0, .int .u64 l0, .bool true, .int .u64 h1, .int .u64 l1, .int .u8 p, .int .u8 t, .string s])) 26⟩, ⟨g2, .cells (av 1500 (w8 (fun _ => 0))) 80⟩, ⟨g3, .cells (av 7 (ls [.int .u8 96, .int .i64 40, .int .i64 4, .int .i64 7, .int .i64 6, .int .i64 8, .int .i64 40])) 60⟩] u6 := M
  refine hl_val (M.drop (.cons_cons _ (.cons _ (.cons_cons _ (.slnil))))) 0 rfl (by decide) (by kernel_rfl) (by kernel_rfl) (want_no rfl) (some 10) rfl (.pointer (some ⟨g3, 5, none⟩)) (fun _ _ => by kernel_rfl) ?_
  refine hl_cell (M.drop (.cons_cons _ (.cons _ (.cons_cons _ (.slnil))))) 1 rfl (by decide) (by kernel_rfl) (by kernel_rfl) (want_no rfl) (some 11) rfl 3 _ rfl g3 5 (by kernel_rfl) (.int .i64 8) (fun _ => by kernel_rfl) (fun w M => M.cell 1 rfl (by decide) rfl) ?_
  refine hl_val (M.drop (.cons_cons _ (.cons _ (.cons_cons _ (.slnil))))) 2 rfl (by decide) (by kernel_rfl) (by kernel_rfl) (want_no rfl) (some 12) rfl (.pointer (some ⟨g3, 5, none⟩)) (fun _ _ => by kernel_rfl) ?_
  refine hl_cell (M.drop (.cons_cons _ (.cons _ (.cons_cons _ (.slnil))))) 3 rfl (by decide) (by kernel_rfl) (by kernel_rfl) (want_no rfl) (some 13) rfl 3 _ rfl g3 5 (by kernel_rfl) (.int .i64 8) (fun _ => by kernel_rfl) (fun w M => M.cell 1 rfl (by decide) rfl) ?_
  refine hl_val (M.drop (.cons_cons _ (.cons _ (.cons_cons _ (.slnil))))) 4 rfl (by decide) (by kernel_rfl) (by kernel_rfl) (want_no rfl) (some 14) rfl (.slice (some ⟨g2, 8, none⟩) 1492 1492) (fun _ _ => by kernel_rfl) ?_
  refine hl_val (M.drop (.cons_cons _ (.cons _ (.cons_cons _ (.slnil))))) 5 rfl (by decide) (by kernel_rfl) (by kernel_rfl) (want_no rfl) (some 15) rfl (.pointer (some ⟨g1, 0, none⟩)) (fun _ _ => by kernel_rfl) ?_
  refine hl_load (M.drop (.cons_cons _ (.cons _ (.cons_cons _ (.slnil))))) 6 rfl (by decide) (by kernel_rfl) (by kernel_rfl) (want_no rfl) (some 16) rfl 24 _ rfl 0 g1 0 (by kernel_rfl) 9 26 (ls [.bool true, .int .u64 h0, .int .u64 l0, .bool true, .int .u64 h1, .int .u64 l1, .int .u8 p, .int .u8 t, .string s]) rfl 3 (ls [.bool true, .int .u64 h0, .int .u64 l0]) (part_ls _ 0 3 _ rfl) (by decide) _ Tryz.underlying24 rfl inz24 ?_
  refine hl_val (M.drop (.cons_cons _ (.cons _ (.cons_cons _ (.slnil))))) 8 rfl (by decide) (by kernel_rfl) (by kernel_rfl) (want_no rfl) (some 18) rfl (.pointer (some ⟨g1, 3, none⟩)) (fun _ _ => by kernel_rfl) ?_
  refine hl_load (M.drop (.cons_cons _ (.cons _ (.cons_cons _ (.slnil))))) 9 rfl (by decide) (by kernel_rfl) (by kernel_rfl) (want_no rfl) (some 19) rfl 24 _ rfl 0 g1 3 (by kernel_rfl) 9 26 (ls [.bool true, .int .u64 h0, .int .u64 l0, .bool true, .int .u64 h1, .int .u64 l1, .int .u8 p, .int .u8 t, .string s]) rfl 3 (ls [.bool true, .int .u64 h1, .int .u64 l1]) (part_ls _ 3 3 _ rfl) (by decide) _ Tryz.underlying24 rfl inz24 ?_
  refine hl_val (M.drop (.cons_cons _ (.cons _ (.cons_cons _ (.slnil))))) 12 rfl (by decide) (by kernel_rfl) (by kernel_rfl) (want_no rfl) (some 22) rfl (.pointer (some ⟨g1, 8, none⟩)) (fun _ _ => by kernel_rfl) ?_
  refine hl_cell (M.drop (.cons_cons _ (.cons _ (.cons_cons _ (.slnil))))) 13 rfl (by decide) (by kernel_rfl) (by kernel_rfl) (want_no rfl) (some 23) rfl 9 _ rfl g1 8 (by kernel_rfl) (.string s) (fun _ => by kernel_rfl) (fun w M => M.cell 0 rfl (by decide) rfl) ?_
  refine hl_one 7 (by decide) (by kernel_rfl) rfl ?_
  refine pl_call M (want_no rfl) (some 17) rfl 58 #[.agg (av 3 (ls [.bool true, .int .u64 h0, .int .u64 l0]))] (.string (aB true h0 l0)) (fun _ => by kernel_rfl) (fun w M => c_addrBytes true h0 l0 w M.laid) ?_
  intro u7 M
  refine pl_nil ?_
  refine au_then ?_
  refine ⟨(M.drop (.cons_cons _ (.cons _ (.cons_cons _ (.slnil))))), ?_⟩
  refine hl_one 10 (by decide) (by kernel_rfl) rfl ?_
  refine pl_call M (want_no rfl) (some 20) rfl 58 #[.agg (av 3 (ls [.bool true, .int .u64 h1, .int .u64 l1]))] (.string (aB true h1 l1)) (fun _ => by kernel_rfl) (fun w M => c_addrBytes true h1 l1 w M.laid) ?_
  intro u8 M
  refine pl_nil ?_
  refine au_then ?_
  refine ⟨(M.drop (.cons_cons _ (.cons _ (.cons_cons _ (.slnil))))), ?_⟩
  refine hl_val (M.drop (.cons_cons _ (.cons _ (.cons_cons _ (.slnil))))) 11 rfl (by decide) (by kernel_rfl) (by kernel_rfl) (want_no rfl) (some 21) rfl (.string ((aB true h0 l0) ++ (aB true h1 l1))) (fun w _ => (run_cat 9 9 _ _ rfl (aB true h0 l0) (aB true h1 l1) (by kernel_rfl) (by kernel_rfl) (by rw [aB_t, aB_t]; decide)) w) ?_
  refine hl_val (M.drop (.cons_cons _ (.cons _ (.cons_cons _ (.slnil))))) 14 rfl (by decide) (by kernel_rfl) (by kernel_rfl) (want_no rfl) (some 24) rfl (.string (((aB true h0 l0) ++ (aB true h1 l1)) ++ s)) (fun w _ => (run_cat 9 9 _ _ rfl ((aB true h0 l0) ++ (aB true h1 l1)) s (by kernel_rfl) (by kernel_rfl) (by rw [ByteArray.size_append, aB_t, aB_t]; omega)) w) ?_
  refine hl_one 15 (by decide) (by kernel_rfl) rfl ?_
  refine pl_copyS M (want_no rfl) (some 25) rfl 54 9 3 5 Tryz.underlying54 inz5 1 g2 1500 80 (w8 (fun _ => 0)) rfl 8 1492 1492 (((aB true h0 l0) ++ (aB true h1 l1)) ++ s) (32 + s.size) (by rw [ByteArray.size_append, ByteArray.size_append, aB_t, aB_t]; show _ = min _ _; omega) (by omega) (w8 (cpy (fun _ => 0) 8 (32 + s.size) (((aB true h0 l0) ++ (aB true h1 l1)) ++ s))) (fun j _ => cpy_w8 _ _ _ _ j) (fun _ => by kernel_rfl) ?_
  intro u9 M
  replace M : Mem ⟨w, []⟩ [⟨g1, .cells (av 9 (ls [.bool true, .int .u64 h0, .int .u64 l0, .bool true, .int .u64 h1, .int .u64 l1, .int .u8 p, .int .u8 t, .string s])) 26⟩, ⟨g2, .cells (av 1500 (w8 (cpy (fun _ => 0) 8 (32 + s.size) (((aB true h0 l0) ++ (aB true h1 l1)) ++ s)))) 80⟩, ⟨g3, .cells (av 7 (ls [.int .u8 96, .int .i64 40, .int .i64 4, .int .i64 7, .int .i64 6, .int .i64 8, .int .i64 40])) 60⟩] u9 := M
  refine pl_nil ?_
  refine au_then ?_
  refine ⟨(M.drop (.cons_cons _ (.cons _ (.cons_cons _ (.slnil))))), ?_⟩
  refine hl_val (M.drop (.cons_cons _ (.cons _ (.cons_cons _ (.slnil))))) 16 rfl (by decide) (by kernel_rfl) (by kernel_rfl) (want_no rfl) (some 26) rfl (.int .i64 ((40 + s.size : Nat) : Int)) (fun w _ => (fun w => Eq.trans (b := .ok (.value (.int .i64 (cv .i64 (8 + ((32 + s.size : Nat) : Int))))) w) (by kernel_rfl) (by rw [cv_i64 (by omega) (by omega)] <;> (congr 3 <;> omega))) w) ?_
  refine hl_end (by kernel_rfl) (by kernel_rfl) rfl ?_
  refine pl_val (want_no rfl) (some 5) rfl (.int .i64 ((40 + s.size : Nat) : Int)) (fun _ => by kernel_rfl) ?_
  refine pl_nil ?_
  refine au_then ?_
  refine au_then ?_
  refine wp_seq ?_
  refine rg_lit ?_
  refine pl_val (want_no rfl) (some 27) rfl (.pointer (some ⟨g3, 0, none⟩)) (fun _ => by kernel_rfl) ?_
  refine pl_cell M (want_no rfl) (some 28) rfl 5 _ rfl g3 0 (by kernel_rfl) (.int .u8 96) (fun _ => by kernel_rfl) (fun w M => M.cell 2 rfl (by decide) rfl) ?_
  refine pl_val (want_no rfl) (some 29) rfl (.pointer (some ⟨g2, 0, none⟩)) (fun _ => by kernel_rfl) ?_
  refine pl_put1 M (want_no rfl) rfl 5 _ _ rfl 1 g2 0 (by kernel_rfl) 1500 80 (w8 (cpy (fun _ => 0) 8 (32 + s.size) (((aB true h0 l0) ++ (aB true h1 l1)) ++ s))) rfl (.int .u8 96) (w8 (upd (cpy (fun _ => 0) 8 (32 + s.size) (((aB true h0 l0) ++ (aB true h1 l1)) ++ s)) 0 96)) (by kernel_rfl) inz5 (by decide) rfl rfl (fun j _ => put_w8 _ _ _ j) ?_
  intro u10 M
  replace M : Mem ⟨w, []⟩ [⟨g1, .cells (av 9 (ls [.bool true, .int .u64 h0, .int .u64 l0, .bool true, .int .u64 h1, .int .u64 l1, .int .u8 p, .int .u8 t, .string s])) 26⟩, ⟨g2, .cells (av 1500 (w8 (upd (cpy (fun _ => 0) 8 (32 + s.size) (((aB true h0 l0) ++ (aB true h1 l1)) ++ s)) 0 96))) 80⟩, ⟨g3, .cells (av 7 (ls [.int .u8 96, .int .i64 40, .int .i64 4, .int .i64 7, .int .i64 6, .int .i64 8, .int .i64 40])) 60⟩] u10 := M
  refine pl_nil ?_
  refine au_then ?_
  refine wp_seq ?_
  refine rg_tail M 9 (by kernel_rfl) (by kernel_rfl) ?_
  simp only [List.take_succ_cons, List.take_zero]
  refine k_val (want_no rfl) (some 30) rfl (.pointer (some ⟨g3, 2, none⟩)) (fun _ => by kernel_rfl) ?_
  refine k_cell M (want_no rfl) (some 31) rfl 3 _ rfl g3 2 (by kernel_rfl) (.int .i64 4) (fun _ => by kernel_rfl) (fun w M => M.cell 2 rfl (by decide) rfl) ?_
  refine k_val (want_no rfl) (some 32) rfl (.slice (some ⟨g2, 4, none⟩) 1496 1496) (fun _ => by kernel_rfl) ?_
  refine k_val (want_no rfl) (some 33) rfl (.int .i64 ((40 + s.size : Nat) : Int)) (fun _ => by kernel_rfl) ?_
  refine k_val (want_no rfl) (some 34) rfl (.pointer (some ⟨g3, 6, none⟩)) (fun _ => by kernel_rfl) ?_
  refine k_cell M (want_no rfl) (some 35) rfl 3 _ rfl g3 6 (by kernel_rfl) (.int .i64 40) (fun _ => by kernel_rfl) (fun w M => M.cell 2 rfl (by decide) rfl) ?_
  refine k_val (want_no rfl) (some 36) rfl (.int .i64 ((s.size : Nat) : Int)) (fun w => Eq.trans (b := .ok (.value (.int .i64 (cv .i64 (((40 + s.size : Nat) : Int) - 40)))) w) (by kernel_rfl) (by rw [cv_i64 (by omega) (by omega)] <;> (congr 3 <;> omega))) ?_
  refine k_val (want_no rfl) (some 37) rfl (.int .u16 (((s.size : Nat) : Int))) (fun w => Eq.trans (b := .ok (.value (.int .u16 (cv .u16 (((s.size : Nat) : Int))))) w) (by kernel_rfl) (by rw [cv_u16]; congr 3; omega)) ?_
  refine k_call M (want_no rfl) (some 38) rfl 59 #[.int .u16 (((s.size : Nat) : Int))] (.string (be2 (cv .u64 (((s.size : Nat) : Int))))) (fun _ => by kernel_rfl) (fun w M => c_U16 (((s.size : Nat) : Int)) w M.laid) ?_
  refine kl_nil ?_
  intro u11 M
  replace M : Mem ⟨w, []⟩ [⟨g1, .cells (av 9 (ls [.bool true, .int .u64 h0, .int .u64 l0, .bool true, .int .u64 h1, .int .u64 l1, .int .u8 p, .int .u8 t, .string s])) 26⟩, ⟨g2, .cells (av 1500 (w8 (upd (cpy (fun _ => 0) 8 (32 + s.size) (((aB true h0 l0) ++ (aB true h1 l1)) ++ s)) 0 96))) 80⟩, ⟨g3, .cells (av 7 (ls [.int .u8 96, .int .i64 40, .int .i64 4, .int .i64 7, .int .i64 6, .int .i64 8, .int .i64 40])) 60⟩] u11 := M
  refine pl_copyS M (want_no rfl) (some 39) rfl 54 9 3 5 Tryz.underlying54 inz5 1 g2 1500 80 (w8 (upd (cpy (fun _ => 0) 8 (32 + s.size) (((aB true h0 l0) ++ (aB true h1 l1)) ++ s)) 0 96)) rfl 4 1496 1496 (be2 (cv .u64 (((s.size : Nat) : Int)))) 2 (by rw [be2_size]; rfl) (by omega) (w8 (cpy (upd (cpy (fun _ => 0) 8 (32 + s.size) (((aB true h0 l0) ++ (aB true h1 l1)) ++ s)) 0 96) 4 2 (be2 (cv .u64 (((s.size : Nat) : Int)))))) (fun j _ => cpy_w8 _ _ _ _ j) (fun _ => by kernel_rfl) ?_
  intro u12 M
  replace M : Mem ⟨w, []⟩ [⟨g1, .cells (av 9 (ls [.bool true, .int .u64 h0, .int .u64 l0, .bool true, .int .u64 h1, .int .u64 l1, .int .u8 p, .int .u8 t, .string s])) 26⟩, ⟨g2, .cells (av 1500 (w8 (cpy (upd (cpy (fun _ => 0) 8 (32 + s.size) (((aB true h0 l0) ++ (aB true h1 l1)) ++ s)) 0 96) 4 2 (be2 (cv .u64 (((s.size : Nat) : Int))))))) 80⟩, ⟨g3, .cells (av 7 (ls [.int .u8 96, .int .i64 40, .int .i64 4, .int .i64 7, .int .i64 6, .int .i64 8, .int .i64 40])) 60⟩] u12 := M
  refine pl_nil ?_
  refine au_then ?_
  refine wp_seq ?_
  refine rg_held M [⟨g1, .cells (av 9 (ls [.bool true, .int .u64 h0, .int .u64 l0, .bool true, .int .u64 h1, .int .u64 l1, .int .u8 p, .int .u8 t, .string s])) 26⟩, ⟨g3, .cells (av 7 (ls [.int .u8 96, .int .i64 40, .int .i64 4, .int .i64 7, .int .i64 6, .int .i64 8, .int .i64 40])) 60⟩] 11 rfl (by kernel_rfl) (by kernel_rfl) (fun _ _ d _ _ h => by cases d <;> exact h) ?_
  intro u13 M
  replace M : Mem ⟨w, []⟩ [⟨g1, .cells (av 9 (ls [.bool true, .int .u64 h0, .int .u64 l0, .bool true, .int .u64 h1, .int .u64 l1, .int .u8 p, .int .u8 t, .string s])) 26⟩, ⟨g2, .cells (av 1500 (w8 (cpy (upd (cpy (fun _ => 0) 8 (32 + s.size) (((aB true h0 l0) ++ (aB true h1 l1)) ++ s)) 0 96) 4 2 (be2 (cv .u64 (((s.size : Nat) : Int))))))) 80⟩, ⟨g3, .cells (av 7 (ls [.int .u8 96, .int .i64 40, .int .i64 4, .int .i64 7, .int .i64 6, .int .i64 8, .int .i64 40])) 60⟩] u13 := M
  refine hl_val (M.drop (.cons_cons _ (.cons _ (.cons_cons _ (.slnil))))) 0 rfl (by decide) (by kernel_rfl) (by kernel_rfl) (want_no rfl) (some 40) rfl (.pointer (some ⟨g3, 3, none⟩)) (fun _ _ => by kernel_rfl) ?_
  refine hl_cell (M.drop (.cons_cons _ (.cons _ (.cons_cons _ (.slnil))))) 1 rfl (by decide) (by kernel_rfl) (by kernel_rfl) (want_no rfl) (some 41) rfl 3 _ rfl g3 3 (by kernel_rfl) (.int .i64 7) (fun _ => by kernel_rfl) (fun w M => M.cell 1 rfl (by decide) rfl) ?_
  refine hl_val (M.drop (.cons_cons _ (.cons _ (.cons_cons _ (.slnil))))) 2 rfl (by decide) (by kernel_rfl) (by kernel_rfl) (want_no rfl) (some 42) rfl (.pointer (some ⟨g3, 4, none⟩)) (fun _ _ => by kernel_rfl) ?_
  refine hl_cell (M.drop (.cons_cons _ (.cons _ (.cons_cons _ (.slnil))))) 3 rfl (by decide) (by kernel_rfl) (by kernel_rfl) (want_no rfl) (some 43) rfl 3 _ rfl g3 4 (by kernel_rfl) (.int .i64 6) (fun _ => by kernel_rfl) (fun w M => M.cell 1 rfl (by decide) rfl) ?_
  refine hl_val (M.drop (.cons_cons _ (.cons _ (.cons_cons _ (.slnil))))) 4 rfl (by decide) (by kernel_rfl) (by kernel_rfl) (want_no rfl) (some 44) rfl (.pointer (some ⟨g1, 7, none⟩)) (fun _ _ => by kernel_rfl) ?_
  refine hl_cell (M.drop (.cons_cons _ (.cons _ (.cons_cons _ (.slnil))))) 5 rfl (by decide) (by kernel_rfl) (by kernel_rfl) (want_no rfl) (some 45) rfl 5 _ rfl g1 7 (by kernel_rfl) (.int .u8 t) (fun _ => by kernel_rfl) (fun w M => M.cell 0 rfl (by decide) rfl) ?_
  refine hl_val (M.drop (.cons_cons _ (.cons _ (.cons_cons _ (.slnil))))) 6 rfl (by decide) (by kernel_rfl) (by kernel_rfl) (want_no rfl) (some 46) rfl (.pointer (some ⟨g1, 6, none⟩)) (fun _ _ => by kernel_rfl) ?_
  refine hl_cell (M.drop (.cons_cons _ (.cons _ (.cons_cons _ (.slnil))))) 7 rfl (by decide) (by kernel_rfl) (by kernel_rfl) (want_no rfl) (some 47) rfl 5 _ rfl g1 6 (by kernel_rfl) (.int .u8 p) (fun _ => by kernel_rfl) (fun w M => M.cell 0 rfl (by decide) rfl) ?_
  refine hl_val (M.drop (.cons_cons _ (.cons _ (.cons_cons _ (.slnil))))) 8 rfl (by decide) (by kernel_rfl) (by kernel_rfl) (want_no rfl) (some 48) rfl (.pointer (some ⟨g2, 7, none⟩)) (fun _ _ => by kernel_rfl) ?_
  refine hl_one 9 (by decide) (by kernel_rfl) rfl ?_
  refine pl_put1 M (want_no rfl) rfl 5 _ _ rfl 1 g2 7 (by kernel_rfl) 1500 80 (w8 (cpy (upd (cpy (fun _ => 0) 8 (32 + s.size) (((aB true h0 l0) ++ (aB true h1 l1)) ++ s)) 0 96) 4 2 (be2 (cv .u64 (((s.size : Nat) : Int)))))) rfl (.int .u8 t) (w8 (upd (cpy (upd (cpy (fun _ => 0) 8 (32 + s.size) (((aB true h0 l0) ++ (aB true h1 l1)) ++ s)) 0 96) 4 2 (be2 (cv .u64 (((s.size : Nat) : Int))))) 7 t)) (by kernel_rfl) inz5 (by decide) rfl rfl (fun j _ => put_w8 _ _ _ j) ?_
  intro u14 M
  replace M : Mem ⟨w, []⟩ [⟨g1, .cells (av 9 (ls [.bool true, .int .u64 h0, .int .u64 l0, .bool true, .int .u64 h1, .int .u64 l1, .int .u8 p, .int .u8 t, .string s])) 26⟩, ⟨g2, .cells (av 1500 (w8 (upd (cpy (upd (cpy (fun _ => 0) 8 (32 + s.size) (((aB true h0 l0) ++ (aB true h1 l1)) ++ s)) 0 96) 4 2 (be2 (cv .u64 (((s.size : Nat) : Int))))) 7 t))) 80⟩, ⟨g3, .cells (av 7 (ls [.int .u8 96, .int .i64 40, .int .i64 4, .int .i64 7, .int .i64 6, .int .i64 8, .int .i64 40])) 60⟩] u14 := M
  refine pl_nil ?_
  refine au_then ?_
  refine ⟨(M.drop (.cons_cons _ (.cons _ (.cons_cons _ (.slnil))))), ?_⟩
  refine hl_val (M.drop (.cons_cons _ (.cons _ (.cons_cons _ (.slnil))))) 10 rfl (by decide) (by kernel_rfl) (by kernel_rfl) (want_no rfl) (some 49) rfl (.pointer (some ⟨g2, 6, none⟩)) (fun _ _ => by kernel_rfl) ?_
  refine hl_end (by kernel_rfl) (by kernel_rfl) rfl ?_
  refine pl_put1 M (want_no rfl) rfl 5 _ _ rfl 1 g2 6 (by kernel_rfl) 1500 80 (w8 (upd (cpy (upd (cpy (fun _ => 0) 8 (32 + s.size) (((aB true h0 l0) ++ (aB true h1 l1)) ++ s)) 0 96) 4 2 (be2 (cv .u64 (((s.size : Nat) : Int))))) 7 t)) rfl (.int .u8 p) (w8 (upd (upd (cpy (upd (cpy (fun _ => 0) 8 (32 + s.size) (((aB true h0 l0) ++ (aB true h1 l1)) ++ s)) 0 96) 4 2 (be2 (cv .u64 (((s.size : Nat) : Int))))) 7 t) 6 p)) (by kernel_rfl) inz5 (by decide) rfl rfl (fun j _ => put_w8 _ _ _ j) ?_
  intro u15 M
  replace M : Mem ⟨w, []⟩ [⟨g1, .cells (av 9 (ls [.bool true, .int .u64 h0, .int .u64 l0, .bool true, .int .u64 h1, .int .u64 l1, .int .u8 p, .int .u8 t, .string s])) 26⟩, ⟨g2, .cells (av 1500 (w8 (upd (upd (cpy (upd (cpy (fun _ => 0) 8 (32 + s.size) (((aB true h0 l0) ++ (aB true h1 l1)) ++ s)) 0 96) 4 2 (be2 (cv .u64 (((s.size : Nat) : Int))))) 7 t) 6 p))) 80⟩, ⟨g3, .cells (av 7 (ls [.int .u8 96, .int .i64 40, .int .i64 4, .int .i64 7, .int .i64 6, .int .i64 8, .int .i64 40])) 60⟩] u15 := M
  refine pl_nil ?_
  refine au_then ?_
  have hNBa := NB_f6a h0 l0 h1 l1 p t s hp ht
  replace M : Mem ⟨w, []⟩ [⟨g1, .cells (av 9 (ls [.bool true, .int .u64 h0, .int .u64 l0, .bool true, .int .u64 h1, .int .u64 l1, .int .u8 p, .int .u8 t, .string s])) 26⟩, ⟨g2, .cells (av 1500 (w8 (f6a h0 l0 h1 l1 p t s))) 80⟩, ⟨g3, .cells (av 7 (ls [.int .u8 96, .int .i64 40, .int .i64 4, .int .i64 7, .int .i64 6, .int .i64 8, .int .i64 40])) 60⟩] u15 := M
  refine au_then ?_
  refine wp_seq ?_
  refine wp_seq ?_
  refine rg_lit ?_
  refine pl_val (want_no rfl) (some 50) rfl (.pointer (some ⟨g1, 0, none⟩)) (fun _ => by kernel_rfl) ?_
  refine pl_val (want_no rfl) (some 51) rfl (.pointer (some ⟨g1, 0, none⟩)) (fun _ => by kernel_rfl) ?_
  refine pl_cell M (want_no rfl) (some 52) rfl 4 _ rfl g1 0 (by kernel_rfl) (.bool true) (fun _ => by kernel_rfl) (fun w M => M.cell 0 rfl (by decide) rfl) ?_
  refine pl_val (want_no rfl) (some 53) rfl (.bool false) (fun _ => by kernel_rfl) ?_
  refine pl_nil ?_
  refine au_then ?_
  refine wp_cond_false (by kernel_rfl) ?_
  refine wp_skip ?_
  refine au_then ?_
  refine wp_seq ?_
  refine rg_lit ?_
  refine pl_val (want_no rfl) (some 62) rfl (.int .i64 ((40 + s.size : Nat) : Int)) (fun _ => by kernel_rfl) ?_
  refine pl_val (want_no rfl) (some 63) rfl (.slice (some ⟨g2, 0, none⟩) (40 + s.size) 1500) (run_slAH 80 1500 5 Tryz.underlying80 inz5 _ _ rfl g2 0 (by kernel_rfl) .i64 (40 + s.size) (by kernel_rfl) (by omega) (by decide)) ?_
  refine pl_back M (want_no rfl) (some 64) rfl _ rfl 1 g2 (40 + s.size) 1500 (by kernel_rfl) _ rfl ((List.range (40 + s.size)).map (f6a h0 l0 h1 l1 p t s)) 1500 (sb_avk 1500 (40 + s.size) (by omega) (f6a h0 l0 h1 l1 p t s) 80) (by simp) (NB.l hNBa _) ?_
  refine pl_val (want_no rfl) (some 2) rfl (.string (bs ((List.range (40 + s.size)).map (f6a h0 l0 h1 l1 p t s)))) (fun _ => by kernel_rfl) ?_
  refine pl_nil ?_
  refine au_then ?_
  refine wp_ret ?_
  have e0 : (f6o h0 l0 h1 l1 p t s) = (bs ((List.range (40 + s.size)).map (f6a h0 l0 h1 l1 p t s))) := rfl
  exact bodyPost_ret (v := .string (bs ((List.range (40 + s.size)).map (f6a h0 l0 h1 l1 p t s)))) (results_tmp1 Tryz.results33 _ _ _ (by kernel_rfl)) (by kernel_rfl) ⟨by simp only [e0], below_grown M.old⟩

def f4a (h0 l0 h1 l1 p t : Int) (s : ByteArray) : Nat → Int := (upd (upd (cpy (upd (cpy (fun _ => 0) 12 (8 + s.size) (((aB false h0 l0) ++ (aB false h1 l1)) ++ s)) 0 69) 2 2 (be2 (cv .u64 (((20 + s.size) : Nat) : Int)))) 8 t) 9 p)
theorem NB_f4a (h0 l0 h1 l1 p t : Int) (s : ByteArray) (hp : 0 ≤ p ∧ p < 256) (ht : 0 ≤ t ∧ t < 256) : NB (f4a h0 l0 h1 l1 p t s) := (((((NB.z.c _ _ _).u _ (by decide)).c _ _ _).u _ ht).u _ hp)
def f4s (h0 l0 h1 l1 p t : Int) (s : ByteArray) : ByteArray := bs ((List.range 20).map (f4a h0 l0 h1 l1 p t s))
def f4b (h0 l0 h1 l1 p t : Int) (s : ByteArray) : Nat → Int := cpy (f4a h0 l0 h1 l1 p t s) 10 2 (be2 (cv .u64 (sumS (f4s h0 l0 h1 l1 p t s))))
def f4o (h0 l0 h1 l1 p t : Int) (s : ByteArray) : ByteArray := bs ((List.range (20 + s.size)).map (f4b h0 l0 h1 l1 p t s))
set_option maxRecDepth 100000 in
set_option maxHeartbeats 4000000 in
set_option linter.unusedSimpArgs false in
theorem c_bytesFour (h0 l0 h1 l1 p t : Int) (s : ByteArray) (hs : s.size ≤ 1480) (hp : 0 ≤ p ∧ p < 256) (ht : 0 ≤ t ∧ t < 256) (w : World) (hL : Laid w)  :
    Calls Tryz.prog 33 #[.agg (av 9 (ls [.bool false, .int .u64 h0, .int .u64 l0, .bool false, .int .u64 h1, .int .u64 l1, .int .u8 p, .int .u8 t, .string s]))] w fun r w' => r = .returned (.string (f4o h0 l0 h1 l1 p t s)) ∧ Below w.heap.size w w' := by
  go_enter Tryz.func33, Tryz.ntmps33
  have M := Mem.start hL
  refine wp_seq ?_
  refine rg_lit ?_
  refine pl_new M (want_no rfl) (some 1) rfl (.cells (av 9 (ls [.bool false, .int .u64 h0, .int .u64 l0, .bool false, .int .u64 h1, .int .u64 l1, .int .u8 p, .int .u8 t, .string s])) 26) (fun _ => by kernel_rfl) ?_
  intro g1 u1 M
  replace M : Mem ⟨w, []⟩ [⟨g1, .cells (av 9 (ls [.bool false, .int .u64 h0, .int .u64 l0, .bool false, .int .u64 h1, .int .u64 l1, .int .u8 p, .int .u8 t, .string s])) 26⟩] u1 := M
  refine pl_val (want_no rfl) (some 2) rfl (.string ⟨#[]⟩) (fun _ => by kernel_rfl) ?_
  refine pl_nil ?_
  refine au_then ?_
  refine wp_seq ?_
  refine rg_lit ?_
  refine pl_new M (want_no rfl) (some 3) rfl (.cells (av 1500 (w8 (fun _ => 0))) 80) (fun _ => by kernel_rfl) ?_
  intro g2 u2 M
  replace M : Mem ⟨w, []⟩ [⟨g1, .cells (av 9 (ls [.bool false, .int .u64 h0, .int .u64 l0, .bool false, .int .u64 h1, .int .u64 l1, .int .u8 p, .int .u8 t, .string s])) 26⟩, ⟨g2, .cells (av 1500 (w8 (fun _ => 0))) 80⟩] u2 := M
  refine pl_nil ?_
  refine au_then ?_
  refine wp_seq ?_
  refine rg_lit ?_
  refine pl_val (want_no rfl) (some 6) rfl (.pointer (some ⟨g1, 0, none⟩)) (fun _ => by kernel_rfl) ?_
  refine pl_val (want_no rfl) (some 7) rfl (.pointer (some ⟨g1, 0, none⟩)) (fun _ => by kernel_rfl) ?_
  refine pl_cell M (want_no rfl) (some 8) rfl 4 _ rfl g1 0 (by kernel_rfl) (.bool false) (fun _ => by kernel_rfl) (fun w M => M.cell 0 rfl (by decide) rfl) ?_
  refine pl_call M (want_no rfl) (some 9) rfl 37 #[.bool false] (.agg (av 7 (ls [.int .u8 69, .int .i64 20, .int .i64 2, .int .i64 8, .int .i64 9, .int .i64 12, .int .i64 0]))) (fun _ => by kernel_rfl) (fun w M => c_layF w M.laid) ?_
  intro u3 M
  refine pl_new M (want_no rfl) (some 4) rfl (.cells (av 7 (ls [.int .u8 0, .int .i64 0, .int .i64 0, .int .i64 0, .int .i64 0, .int .i64 0, .int .i64 0])) 60) (fun _ => by kernel_rfl) ?_
  intro g3 u4 M
  replace M : Mem ⟨w, []⟩ [⟨g1, .cells (av 9 (ls [.bool false, .int .u64 h0, .int .u64 l0, .bool false, .int .u64 h1, .int .u64 l1, .int .u8 p, .int .u8 t, .string s])) 26⟩, ⟨g2, .cells (av 1500 (w8 (fun _ => 0))) 80⟩, ⟨g3, .cells (av 7 (ls [.int .u8 0, .int .i64 0, .int .i64 0, .int .i64 0, .int .i64 0, .int .i64 0, .int .i64 0])) 60⟩] u4 := M
  refine pl_put M (want_no rfl) rfl 60 _ _ rfl 2 g3 0 (by kernel_rfl) 7 60 (ls [.int .u8 0, .int .i64 0, .int .i64 0, .int .i64 0, .int .i64 0, .int .i64 0, .int .i64 0]) rfl 7 (ls [.int .u8 69, .int .i64 20, .int .i64 2, .int .i64 8, .int .i64 9, .int .i64 12, .int .i64 0]) (ls [.int .u8 69, .int .i64 20, .int .i64 2, .int .i64 8, .int .i64 9, .int .i64 12, .int .i64 0]) (by kernel_rfl) inz60 (by decide) (one_ls _ rfl) (fun j hj => by rw [if_pos (by omega), Nat.sub_zero]) ?_
  intro u5 M
  replace M : Mem ⟨w, []⟩ [⟨g1, .cells (av 9 (ls [.bool false, .int .u64 h0, .int .u64 l0, .bool false, .int .u64 h1, .int .u64 l1, .int .u8 p, .int .u8 t, .string s])) 26⟩, ⟨g2, .cells (av 1500 (w8 (fun _ => 0))) 80⟩, ⟨g3, .cells (av 7 (ls [.int .u8 69, .int .i64 20, .int .i64 2, .int .i64 8, .int .i64 9, .int .i64 12, .int .i64 0])) 60⟩] u5 := M
  refine pl_nil ?_
  refine au_then ?_
  refine wp_seq ?_
  refine rg_held M [⟨g1, .cells (av 9 (ls [.bool false, .int .u64 h0, .int .u64 l0, .bool false, .int .u64 h1, .int .u64 l1, .int .u8 p, .int .u8 t, .string s])) 26⟩, ⟨g3, .cells (av 7 (ls [.int .u8 69, .int .i64 20, .int .i64 2, .int .i64 8, .int .i64 9, .int .i64 12, .int .i64 0])) 60⟩] 17 rfl (by kernel_rfl) (by kernel_rfl) (fun _ _ d _ _ h => by cases d <;> exact h) ?_
  intro u6 M
  replace M : Mem ⟨w, []⟩ [⟨g1, .cells (av 9 (ls [.bool false, .int .u64 h0, .int .u64 l0, .bool false, .int .u64 h1, .int .u64 l1, .int .u8 p, .int .u8 t, .string s])) 26⟩, ⟨g2, .cells (av 1500 (w8 (fun _ => 0))) 80⟩, ⟨g3, .cells (av 7 (ls [.int .u8 69, .int .i64 20, .int .i64 2, .int .i64 8, .int .i64 9, .int .i64 12, .int .i64 0])) 60⟩] u6 := M
  refine hl_val (M.drop (.cons_cons _ (.cons _ (.cons_cons _ (.slnil))))) 0 rfl (by decide) (by kernel_rfl) (by kernel_rfl) (want_no rfl) (some 10) rfl (.pointer (some ⟨g3, 5, none⟩)) (fun _ _ => by kernel_rfl) ?_
  refine hl_cell (M.drop (.cons_cons _ (.cons _ (.cons_cons _ (.slnil))))) 1 rfl (by decide) (by kernel_rfl) (by kernel_rfl) (want_no rfl) (some 11) rfl 3 _ rfl g3 5 (by kernel_rfl) (.int .i64 12) (fun _ => by kernel_rfl) (fun w M => M.cell 1 rfl (by decide) rfl) ?_
  refine hl_val (M.drop (.cons_cons _ (.cons _ (.cons_cons _ (.slnil))))) 2 rfl (by decide) (by kernel_rfl) (by kernel_rfl) (want_no rfl) (some 12) rfl (.pointer (some ⟨g3, 5, none⟩)) (fun _ _ => by kernel_rfl) ?_
  refine hl_cell (M.drop (.cons_cons _ (.cons _ (.cons_cons _ (.slnil))))) 3 rfl (by decide) (by kernel_rfl) (by kernel_rfl) (want_no rfl) (some 13) rfl 3 _ rfl g3 5 (by kernel_rfl) (.int .i64 12) (fun _ => by kernel_rfl) (fun w M => M.cell 1 rfl (by decide) rfl) ?_
  refine hl_val (M.drop (.cons_cons _ (.cons _ (.cons_cons _ (.slnil))))) 4 rfl (by decide) (by kernel_rfl) (by kernel_rfl) (want_no rfl) (some 14) rfl (.slice (some ⟨g2, 12, none⟩) 1488 1488) (fun _ _ => by kernel_rfl) ?_
  refine hl_val (M.drop (.cons_cons _ (.cons _ (.cons_cons _ (.slnil))))) 5 rfl (by decide) (by kernel_rfl) (by kernel_rfl) (want_no rfl) (some 15) rfl (.pointer (some ⟨g1, 0, none⟩)) (fun _ _ => by kernel_rfl) ?_
  refine hl_load (M.drop (.cons_cons _ (.cons _ (.cons_cons _ (.slnil))))) 6 rfl (by decide) (by kernel_rfl) (by kernel_rfl) (want_no rfl) (some 16) rfl 24 _ rfl 0 g1 0 (by kernel_rfl) 9 26 (ls [.bool false, .int .u64 h0, .int .u64 l0, .bool false, .int .u64 h1, .int .u64 l1, .int .u8 p, .int .u8 t, .string s]) rfl 3 (ls [.bool false, .int .u64 h0, .int .u64 l0]) (part_ls _ 0 3 _ rfl) (by decide) _ Tryz.underlying24 rfl inz24 ?_
  refine hl_val (M.drop (.cons_cons _ (.cons _ (.cons_cons _ (.slnil))))) 8 rfl (by decide) (by kernel_rfl) (by kernel_rfl) (want_no rfl) (some 18) rfl (.pointer (some ⟨g1, 3, none⟩)) (fun _ _ => by kernel_rfl) ?_
  refine hl_load (M.drop (.cons_cons _ (.cons _ (.cons_cons _ (.slnil))))) 9 rfl (by decide) (by kernel_rfl) (by kernel_rfl) (want_no rfl) (some 19) rfl 24 _ rfl 0 g1 3 (by kernel_rfl) 9 26 (ls [.bool false, .int .u64 h0, .int .u64 l0, .bool false, .int .u64 h1, .int .u64 l1, .int .u8 p, .int .u8 t, .string s]) rfl 3 (ls [.bool false, .int .u64 h1, .int .u64 l1]) (part_ls _ 3 3 _ rfl) (by decide) _ Tryz.underlying24 rfl inz24 ?_
  refine hl_val (M.drop (.cons_cons _ (.cons _ (.cons_cons _ (.slnil))))) 12 rfl (by decide) (by kernel_rfl) (by kernel_rfl) (want_no rfl) (some 22) rfl (.pointer (some ⟨g1, 8, none⟩)) (fun _ _ => by kernel_rfl) ?_
  refine hl_cell (M.drop (.cons_cons _ (.cons _ (.cons_cons _ (.slnil))))) 13 rfl (by decide) (by kernel_rfl) (by kernel_rfl) (want_no rfl) (some 23) rfl 9 _ rfl g1 8 (by kernel_rfl) (.string s) (fun _ => by kernel_rfl) (fun w M => M.cell 0 rfl (by decide) rfl) ?_
  refine hl_one 7 (by decide) (by kernel_rfl) rfl ?_
  refine pl_call M (want_no rfl) (some 17) rfl 58 #[.agg (av 3 (ls [.bool false, .int .u64 h0, .int .u64 l0]))] (.string (aB false h0 l0)) (fun _ => by kernel_rfl) (fun w M => c_addrBytes false h0 l0 w M.laid) ?_
  intro u7 M
  refine pl_nil ?_
  refine au_then ?_
  refine ⟨(M.drop (.cons_cons _ (.cons _ (.cons_cons _ (.slnil))))), ?_⟩
  refine hl_one 10 (by decide) (by kernel_rfl) rfl ?_
  refine pl_call M (want_no rfl) (some 20) rfl 58 #[.agg (av 3 (ls [.bool false, .int .u64 h1, .int .u64 l1]))] (.string (aB false h1 l1)) (fun _ => by kernel_rfl) (fun w M => c_addrBytes false h1 l1 w M.laid) ?_
  intro u8 M
  refine pl_nil ?_
  refine au_then ?_
  refine ⟨(M.drop (.cons_cons _ (.cons _ (.cons_cons _ (.slnil))))), ?_⟩
  refine hl_val (M.drop (.cons_cons _ (.cons _ (.cons_cons _ (.slnil))))) 11 rfl (by decide) (by kernel_rfl) (by kernel_rfl) (want_no rfl) (some 21) rfl (.string ((aB false h0 l0) ++ (aB false h1 l1))) (fun w _ => (run_cat 9 9 _ _ rfl (aB false h0 l0) (aB false h1 l1) (by kernel_rfl) (by kernel_rfl) (by rw [aB_f, aB_f]; decide)) w) ?_
  refine hl_val (M.drop (.cons_cons _ (.cons _ (.cons_cons _ (.slnil))))) 14 rfl (by decide) (by kernel_rfl) (by kernel_rfl) (want_no rfl) (some 24) rfl (.string (((aB false h0 l0) ++ (aB false h1 l1)) ++ s)) (fun w _ => (run_cat 9 9 _ _ rfl ((aB false h0 l0) ++ (aB false h1 l1)) s (by kernel_rfl) (by kernel_rfl) (by rw [ByteArray.size_append, aB_f, aB_f]; omega)) w) ?_
  refine hl_one 15 (by decide) (by kernel_rfl) rfl ?_
  refine pl_copyS M (want_no rfl) (some 25) rfl 54 9 3 5 Tryz.underlying54 inz5 1 g2 1500 80 (w8 (fun _ => 0)) rfl 12 1488 1488 (((aB false h0 l0) ++ (aB false h1 l1)) ++ s) (8 + s.size) (by rw [ByteArray.size_append, ByteArray.size_append, aB_f, aB_f]; show _ = min _ _; omega) (by omega) (w8 (cpy (fun _ => 0) 12 (8 + s.size) (((aB false h0 l0) ++ (aB false h1 l1)) ++ s))) (fun j _ => cpy_w8 _ _ _ _ j) (fun _ => by kernel_rfl) ?_
  intro u9 M
  replace M : Mem ⟨w, []⟩ [⟨g1, .cells (av 9 (ls [.bool false, .int .u64 h0, .int .u64 l0, .bool false, .int .u64 h1, .int .u64 l1, .int .u8 p, .int .u8 t, .string s])) 26⟩, ⟨g2, .cells (av 1500 (w8 (cpy (fun _ => 0) 12 (8 + s.size) (((aB false h0 l0) ++ (aB false h1 l1)) ++ s)))) 80⟩, ⟨g3, .cells (av 7 (ls [.int .u8 69, .int .i64 20, .int .i64 2, .int .i64 8, .int .i64 9, .int .i64 12, .int .i64 0])) 60⟩] u9 := M
  refine pl_nil ?_
  refine au_then ?_
  refine ⟨(M.drop (.cons_cons _ (.cons _ (.cons_cons _ (.slnil))))), ?_⟩
  refine hl_val (M.drop (.cons_cons _ (.cons _ (.cons_cons _ (.slnil))))) 16 rfl (by decide) (by kernel_rfl) (by kernel_rfl) (want_no rfl) (some 26) rfl (.int .i64 ((20 + s.size : Nat) : Int)) (fun w _ => (fun w => Eq.trans (b := .ok (.value (.int .i64 (cv .i64 (12 + ((8 + s.size : Nat) : Int))))) w) (by kernel_rfl) (by rw [cv_i64 (by omega) (by omega)] <;> (congr 3 <;> omega))) w) ?_
  refine hl_end (by kernel_rfl) (by kernel_rfl) rfl ?_
  refine pl_val (want_no rfl) (some 5) rfl (.int .i64 ((20 + s.size : Nat) : Int)) (fun _ => by kernel_rfl) ?_
  refine pl_nil ?_
  refine au_then ?_
  refine au_then ?_
  refine wp_seq ?_
  refine rg_lit ?_
  refine pl_val (want_no rfl) (some 27) rfl (.pointer (some ⟨g3, 0, none⟩)) (fun _ => by kernel_rfl) ?_
  refine pl_cell M (want_no rfl) (some 28) rfl 5 _ rfl g3 0 (by kernel_rfl) (.int .u8 69) (fun _ => by kernel_rfl) (fun w M => M.cell 2 rfl (by decide) rfl) ?_
  refine pl_val (want_no rfl) (some 29) rfl (.pointer (some ⟨g2, 0, none⟩)) (fun _ => by kernel_rfl) ?_
  refine pl_put1 M (want_no rfl) rfl 5 _ _ rfl 1 g2 0 (by kernel_rfl) 1500 80 (w8 (cpy (fun _ => 0) 12 (8 + s.size) (((aB false h0 l0) ++ (aB false h1 l1)) ++ s))) rfl (.int .u8 69) (w8 (upd (cpy (fun _ => 0) 12 (8 + s.size) (((aB false h0 l0) ++ (aB false h1 l1)) ++ s)) 0 69)) (by kernel_rfl) inz5 (by decide) rfl rfl (fun j _ => put_w8 _ _ _ j) ?_
  intro u10 M
  replace M : Mem ⟨w, []⟩ [⟨g1, .cells (av 9 (ls [.bool false, .int .u64 h0, .int .u64 l0, .bool false, .int .u64 h1, .int .u64 l1, .int .u8 p, .int .u8 t, .string s])) 26⟩, ⟨g2, .cells (av 1500 (w8 (upd (cpy (fun _ => 0) 12 (8 + s.size) (((aB false h0 l0) ++ (aB false h1 l1)) ++ s)) 0 69))) 80⟩, ⟨g3, .cells (av 7 (ls [.int .u8 69, .int .i64 20, .int .i64 2, .int .i64 8, .int .i64 9, .int .i64 12, .int .i64 0])) 60⟩] u10 := M
  refine pl_nil ?_
  refine au_then ?_
  refine wp_seq ?_
  refine rg_tail M 9 (by kernel_rfl) (by kernel_rfl) ?_
  simp only [List.take_succ_cons, List.take_zero]
  refine k_val (want_no rfl) (some 30) rfl (.pointer (some ⟨g3, 2, none⟩)) (fun _ => by kernel_rfl) ?_
  refine k_cell M (want_no rfl) (some 31) rfl 3 _ rfl g3 2 (by kernel_rfl) (.int .i64 2) (fun _ => by kernel_rfl) (fun w M => M.cell 2 rfl (by decide) rfl) ?_
  refine k_val (want_no rfl) (some 32) rfl (.slice (some ⟨g2, 2, none⟩) 1498 1498) (fun _ => by kernel_rfl) ?_
  refine k_val (want_no rfl) (some 33) rfl (.int .i64 ((20 + s.size : Nat) : Int)) (fun _ => by kernel_rfl) ?_
  refine k_val (want_no rfl) (some 34) rfl (.pointer (some ⟨g3, 6, none⟩)) (fun _ => by kernel_rfl) ?_
  refine k_cell M (want_no rfl) (some 35) rfl 3 _ rfl g3 6 (by kernel_rfl) (.int .i64 0) (fun _ => by kernel_rfl) (fun w M => M.cell 2 rfl (by decide) rfl) ?_
  refine k_val (want_no rfl) (some 36) rfl (.int .i64 (((20 + s.size) : Nat) : Int)) (fun w => Eq.trans (b := .ok (.value (.int .i64 (cv .i64 (((20 + s.size : Nat) : Int) - 0)))) w) (by kernel_rfl) (by rw [cv_i64 (by omega) (by omega)] <;> (congr 3 <;> omega))) ?_
  refine k_val (want_no rfl) (some 37) rfl (.int .u16 ((((20 + s.size) : Nat) : Int))) (fun w => Eq.trans (b := .ok (.value (.int .u16 (cv .u16 ((((20 + s.size) : Nat) : Int))))) w) (by kernel_rfl) (by rw [cv_u16]; congr 3; omega)) ?_
  refine k_call M (want_no rfl) (some 38) rfl 59 #[.int .u16 ((((20 + s.size) : Nat) : Int))] (.string (be2 (cv .u64 ((((20 + s.size) : Nat) : Int))))) (fun _ => by kernel_rfl) (fun w M => c_U16 ((((20 + s.size) : Nat) : Int)) w M.laid) ?_
  refine kl_nil ?_
  intro u11 M
  replace M : Mem ⟨w, []⟩ [⟨g1, .cells (av 9 (ls [.bool false, .int .u64 h0, .int .u64 l0, .bool false, .int .u64 h1, .int .u64 l1, .int .u8 p, .int .u8 t, .string s])) 26⟩, ⟨g2, .cells (av 1500 (w8 (upd (cpy (fun _ => 0) 12 (8 + s.size) (((aB false h0 l0) ++ (aB false h1 l1)) ++ s)) 0 69))) 80⟩, ⟨g3, .cells (av 7 (ls [.int .u8 69, .int .i64 20, .int .i64 2, .int .i64 8, .int .i64 9, .int .i64 12, .int .i64 0])) 60⟩] u11 := M
  refine pl_copyS M (want_no rfl) (some 39) rfl 54 9 3 5 Tryz.underlying54 inz5 1 g2 1500 80 (w8 (upd (cpy (fun _ => 0) 12 (8 + s.size) (((aB false h0 l0) ++ (aB false h1 l1)) ++ s)) 0 69)) rfl 2 1498 1498 (be2 (cv .u64 ((((20 + s.size) : Nat) : Int)))) 2 (by rw [be2_size]; rfl) (by omega) (w8 (cpy (upd (cpy (fun _ => 0) 12 (8 + s.size) (((aB false h0 l0) ++ (aB false h1 l1)) ++ s)) 0 69) 2 2 (be2 (cv .u64 ((((20 + s.size) : Nat) : Int)))))) (fun j _ => cpy_w8 _ _ _ _ j) (fun _ => by kernel_rfl) ?_
  intro u12 M
  replace M : Mem ⟨w, []⟩ [⟨g1, .cells (av 9 (ls [.bool false, .int .u64 h0, .int .u64 l0, .bool false, .int .u64 h1, .int .u64 l1, .int .u8 p, .int .u8 t, .string s])) 26⟩, ⟨g2, .cells (av 1500 (w8 (cpy (upd (cpy (fun _ => 0) 12 (8 + s.size) (((aB false h0 l0) ++ (aB false h1 l1)) ++ s)) 0 69) 2 2 (be2 (cv .u64 ((((20 + s.size) : Nat) : Int))))))) 80⟩, ⟨g3, .cells (av 7 (ls [.int .u8 69, .int .i64 20, .int .i64 2, .int .i64 8, .int .i64 9, .int .i64 12, .int .i64 0])) 60⟩] u12 := M
  refine pl_nil ?_
  refine au_then ?_
  refine wp_seq ?_
  refine rg_held M [⟨g1, .cells (av 9 (ls [.bool false, .int .u64 h0, .int .u64 l0, .bool false, .int .u64 h1, .int .u64 l1, .int .u8 p, .int .u8 t, .string s])) 26⟩, ⟨g3, .cells (av 7 (ls [.int .u8 69, .int .i64 20, .int .i64 2, .int .i64 8, .int .i64 9, .int .i64 12, .int .i64 0])) 60⟩] 11 rfl (by kernel_rfl) (by kernel_rfl) (fun _ _ d _ _ h => by cases d <;> exact h) ?_
  intro u13 M
  replace M : Mem ⟨w, []⟩ [⟨g1, .cells (av 9 (ls [.bool false, .int .u64 h0, .int .u64 l0, .bool false, .int .u64 h1, .int .u64 l1, .int .u8 p, .int .u8 t, .string s])) 26⟩, ⟨g2, .cells (av 1500 (w8 (cpy (upd (cpy (fun _ => 0) 12 (8 + s.size) (((aB false h0 l0) ++ (aB false h1 l1)) ++ s)) 0 69) 2 2 (be2 (cv .u64 ((((20 + s.size) : Nat) : Int))))))) 80⟩, ⟨g3, .cells (av 7 (ls [.int .u8 69, .int .i64 20, .int .i64 2, .int .i64 8, .int .i64 9, .int .i64 12, .int .i64 0])) 60⟩] u13 := M
  refine hl_val (M.drop (.cons_cons _ (.cons _ (.cons_cons _ (.slnil))))) 0 rfl (by decide) (by kernel_rfl) (by kernel_rfl) (want_no rfl) (some 40) rfl (.pointer (some ⟨g3, 3, none⟩)) (fun _ _ => by kernel_rfl) ?_
  refine hl_cell (M.drop (.cons_cons _ (.cons _ (.cons_cons _ (.slnil))))) 1 rfl (by decide) (by kernel_rfl) (by kernel_rfl) (want_no rfl) (some 41) rfl 3 _ rfl g3 3 (by kernel_rfl) (.int .i64 8) (fun _ => by kernel_rfl) (fun w M => M.cell 1 rfl (by decide) rfl) ?_
  refine hl_val (M.drop (.cons_cons _ (.cons _ (.cons_cons _ (.slnil))))) 2 rfl (by decide) (by kernel_rfl) (by kernel_rfl) (want_no rfl) (some 42) rfl (.pointer (some ⟨g3, 4, none⟩)) (fun _ _ => by kernel_rfl) ?_
  refine hl_cell (M.drop (.cons_cons _ (.cons _ (.cons_cons _ (.slnil))))) 3 rfl (by decide) (by kernel_rfl) (by kernel_rfl) (want_no rfl) (some 43) rfl 3 _ rfl g3 4 (by kernel_rfl) (.int .i64 9) (fun _ => by kernel_rfl) (fun w M => M.cell 1 rfl (by decide) rfl) ?_
  refine hl_val (M.drop (.cons_cons _ (.cons _ (.cons_cons _ (.slnil))))) 4 rfl (by decide) (by kernel_rfl) (by kernel_rfl) (want_no rfl) (some 44) rfl (.pointer (some ⟨g1, 7, none⟩)) (fun _ _ => by kernel_rfl) ?_
  refine hl_cell (M.drop (.cons_cons _ (.cons _ (.cons_cons _ (.slnil))))) 5 rfl (by decide) (by kernel_rfl) (by kernel_rfl) (want_no rfl) (some 45) rfl 5 _ rfl g1 7 (by kernel_rfl) (.int .u8 t) (fun _ => by kernel_rfl) (fun w M => M.cell 0 rfl (by decide) rfl) ?_
  refine hl_val (M.drop (.cons_cons _ (.cons _ (.cons_cons _ (.slnil))))) 6 rfl (by decide) (by kernel_rfl) (by kernel_rfl) (want_no rfl) (some 46) rfl (.pointer (some ⟨g1, 6, none⟩)) (fun _ _ => by kernel_rfl) ?_
  refine hl_cell (M.drop (.cons_cons _ (.cons _ (.cons_cons _ (.slnil))))) 7 rfl (by decide) (by kernel_rfl) (by kernel_rfl) (want_no rfl) (some 47) rfl 5 _ rfl g1 6 (by kernel_rfl) (.int .u8 p) (fun _ => by kernel_rfl) (fun w M => M.cell 0 rfl (by decide) rfl) ?_
  refine hl_val (M.drop (.cons_cons _ (.cons _ (.cons_cons _ (.slnil))))) 8 rfl (by decide) (by kernel_rfl) (by kernel_rfl) (want_no rfl) (some 48) rfl (.pointer (some ⟨g2, 8, none⟩)) (fun _ _ => by kernel_rfl) ?_
  refine hl_one 9 (by decide) (by kernel_rfl) rfl ?_
  refine pl_put1 M (want_no rfl) rfl 5 _ _ rfl 1 g2 8 (by kernel_rfl) 1500 80 (w8 (cpy (upd (cpy (fun _ => 0) 12 (8 + s.size) (((aB false h0 l0) ++ (aB false h1 l1)) ++ s)) 0 69) 2 2 (be2 (cv .u64 ((((20 + s.size) : Nat) : Int)))))) rfl (.int .u8 t) (w8 (upd (cpy (upd (cpy (fun _ => 0) 12 (8 + s.size) (((aB false h0 l0) ++ (aB false h1 l1)) ++ s)) 0 69) 2 2 (be2 (cv .u64 ((((20 + s.size) : Nat) : Int))))) 8 t)) (by kernel_rfl) inz5 (by decide) rfl rfl (fun j _ => put_w8 _ _ _ j) ?_
  intro u14 M
  replace M : Mem ⟨w, []⟩ [⟨g1, .cells (av 9 (ls [.bool false, .int .u64 h0, .int .u64 l0, .bool false, .int .u64 h1, .int .u64 l1, .int .u8 p, .int .u8 t, .string s])) 26⟩, ⟨g2, .cells (av 1500 (w8 (upd (cpy (upd (cpy (fun _ => 0) 12 (8 + s.size) (((aB false h0 l0) ++ (aB false h1 l1)) ++ s)) 0 69) 2 2 (be2 (cv .u64 ((((20 + s.size) : Nat) : Int))))) 8 t))) 80⟩, ⟨g3, .cells (av 7 (ls [.int .u8 69, .int .i64 20, .int .i64 2, .int .i64 8, .int .i64 9, .int .i64 12, .int .i64 0])) 60⟩] u14 := M
  refine pl_nil ?_
  refine au_then ?_
  refine ⟨(M.drop (.cons_cons _ (.cons _ (.cons_cons _ (.slnil))))), ?_⟩
  refine hl_val (M.drop (.cons_cons _ (.cons _ (.cons_cons _ (.slnil))))) 10 rfl (by decide) (by kernel_rfl) (by kernel_rfl) (want_no rfl) (some 49) rfl (.pointer (some ⟨g2, 9, none⟩)) (fun _ _ => by kernel_rfl) ?_
  refine hl_end (by kernel_rfl) (by kernel_rfl) rfl ?_
  refine pl_put1 M (want_no rfl) rfl 5 _ _ rfl 1 g2 9 (by kernel_rfl) 1500 80 (w8 (upd (cpy (upd (cpy (fun _ => 0) 12 (8 + s.size) (((aB false h0 l0) ++ (aB false h1 l1)) ++ s)) 0 69) 2 2 (be2 (cv .u64 ((((20 + s.size) : Nat) : Int))))) 8 t)) rfl (.int .u8 p) (w8 (upd (upd (cpy (upd (cpy (fun _ => 0) 12 (8 + s.size) (((aB false h0 l0) ++ (aB false h1 l1)) ++ s)) 0 69) 2 2 (be2 (cv .u64 ((((20 + s.size) : Nat) : Int))))) 8 t) 9 p)) (by kernel_rfl) inz5 (by decide) rfl rfl (fun j _ => put_w8 _ _ _ j) ?_
  intro u15 M
  replace M : Mem ⟨w, []⟩ [⟨g1, .cells (av 9 (ls [.bool false, .int .u64 h0, .int .u64 l0, .bool false, .int .u64 h1, .int .u64 l1, .int .u8 p, .int .u8 t, .string s])) 26⟩, ⟨g2, .cells (av 1500 (w8 (upd (upd (cpy (upd (cpy (fun _ => 0) 12 (8 + s.size) (((aB false h0 l0) ++ (aB false h1 l1)) ++ s)) 0 69) 2 2 (be2 (cv .u64 ((((20 + s.size) : Nat) : Int))))) 8 t) 9 p))) 80⟩, ⟨g3, .cells (av 7 (ls [.int .u8 69, .int .i64 20, .int .i64 2, .int .i64 8, .int .i64 9, .int .i64 12, .int .i64 0])) 60⟩] u15 := M
  refine pl_nil ?_
  refine au_then ?_
  have hNBa := NB_f4a h0 l0 h1 l1 p t s hp ht
  replace M : Mem ⟨w, []⟩ [⟨g1, .cells (av 9 (ls [.bool false, .int .u64 h0, .int .u64 l0, .bool false, .int .u64 h1, .int .u64 l1, .int .u8 p, .int .u8 t, .string s])) 26⟩, ⟨g2, .cells (av 1500 (w8 (f4a h0 l0 h1 l1 p t s))) 80⟩, ⟨g3, .cells (av 7 (ls [.int .u8 69, .int .i64 20, .int .i64 2, .int .i64 8, .int .i64 9, .int .i64 12, .int .i64 0])) 60⟩] u15 := M
  refine au_then ?_
  refine wp_seq ?_
  refine wp_seq ?_
  refine rg_lit ?_
  refine pl_val (want_no rfl) (some 50) rfl (.pointer (some ⟨g1, 0, none⟩)) (fun _ => by kernel_rfl) ?_
  refine pl_val (want_no rfl) (some 51) rfl (.pointer (some ⟨g1, 0, none⟩)) (fun _ => by kernel_rfl) ?_
  refine pl_cell M (want_no rfl) (some 52) rfl 4 _ rfl g1 0 (by kernel_rfl) (.bool false) (fun _ => by kernel_rfl) (fun w M => M.cell 0 rfl (by decide) rfl) ?_
  refine pl_val (want_no rfl) (some 53) rfl (.bool true) (fun _ => by kernel_rfl) ?_
  refine pl_nil ?_
  refine au_then ?_
  refine wp_cond_true (by kernel_rfl) ?_
  refine rg_held M [⟨g1, .cells (av 9 (ls [.bool false, .int .u64 h0, .int .u64 l0, .bool false, .int .u64 h1, .int .u64 l1, .int .u8 p, .int .u8 t, .string s])) 26⟩, ⟨g3, .cells (av 7 (ls [.int .u8 69, .int .i64 20, .int .i64 2, .int .i64 8, .int .i64 9, .int .i64 12, .int .i64 0])) 60⟩] 7 rfl (by kernel_rfl) (by kernel_rfl) (fun _ _ d _ _ h => by cases d <;> exact h) ?_
  intro u16 M
  replace M : Mem ⟨w, []⟩ [⟨g1, .cells (av 9 (ls [.bool false, .int .u64 h0, .int .u64 l0, .bool false, .int .u64 h1, .int .u64 l1, .int .u8 p, .int .u8 t, .string s])) 26⟩, ⟨g2, .cells (av 1500 (w8 (f4a h0 l0 h1 l1 p t s))) 80⟩, ⟨g3, .cells (av 7 (ls [.int .u8 69, .int .i64 20, .int .i64 2, .int .i64 8, .int .i64 9, .int .i64 12, .int .i64 0])) 60⟩] u16 := M
  refine hl_val (M.drop (.cons_cons _ (.cons _ (.cons_cons _ (.slnil))))) 0 rfl (by decide) (by kernel_rfl) (by kernel_rfl) (want_no rfl) (some 54) rfl (.slice (some ⟨g2, 10, none⟩) 1490 1490) (fun _ _ => by kernel_rfl) ?_
  refine hl_val (M.drop (.cons_cons _ (.cons _ (.cons_cons _ (.slnil))))) 1 rfl (by decide) (by kernel_rfl) (by kernel_rfl) (want_no rfl) (some 55) rfl (.pointer (some ⟨g3, 1, none⟩)) (fun _ _ => by kernel_rfl) ?_
  refine hl_cell (M.drop (.cons_cons _ (.cons _ (.cons_cons _ (.slnil))))) 2 rfl (by decide) (by kernel_rfl) (by kernel_rfl) (want_no rfl) (some 56) rfl 3 _ rfl g3 1 (by kernel_rfl) (.int .i64 20) (fun _ => by kernel_rfl) (fun w M => M.cell 1 rfl (by decide) rfl) ?_
  refine hl_val (M.drop (.cons_cons _ (.cons _ (.cons_cons _ (.slnil))))) 3 rfl (by decide) (by kernel_rfl) (by kernel_rfl) (want_no rfl) (some 57) rfl (.slice (some ⟨g2, 0, none⟩) 20 1500) (fun w _ => (run_slAH 80 1500 5 Tryz.underlying80 inz5 _ _ rfl g2 0 (by kernel_rfl) .i64 20 (by kernel_rfl) (by decide) (by decide)) w) ?_
  refine hl_one 4 (by decide) (by kernel_rfl) rfl ?_
  refine pl_back M (want_no rfl) (some 58) rfl _ rfl 1 g2 20 1500 (by kernel_rfl) _ rfl ((List.range 20).map (f4a h0 l0 h1 l1 p t s)) 1500 (sb_avk 1500 20 (by decide) (f4a h0 l0 h1 l1 p t s) 80) (by simp) (NB.l hNBa _) ?_
  refine pl_nil ?_
  refine au_then ?_
  refine ⟨(M.drop (.cons_cons _ (.cons _ (.cons_cons _ (.slnil))))), ?_⟩
  refine hl_one 5 (by decide) (by kernel_rfl) rfl ?_
  refine pl_call M (want_no rfl) (some 59) rfl 14 #[.string (bs ((List.range 20).map (f4a h0 l0 h1 l1 p t s)))] (.int .u16 (sumS (bs ((List.range 20).map (f4a h0 l0 h1 l1 p t s))))) (fun _ => by kernel_rfl) (fun w M => c_Sum (bs ((List.range 20).map (f4a h0 l0 h1 l1 p t s))) (by rw [bs_size]; simp) w M.laid) ?_
  intro u17 M
  refine pl_nil ?_
  refine au_then ?_
  refine ⟨(M.drop (.cons_cons _ (.cons _ (.cons_cons _ (.slnil))))), ?_⟩
  refine hl_one 6 (by decide) (by kernel_rfl) rfl ?_
  refine pl_call M (want_no rfl) (some 60) rfl 59 #[.int .u16 (sumS (bs ((List.range 20).map (f4a h0 l0 h1 l1 p t s))))] (.string (be2 (cv .u64 (sumS (bs ((List.range 20).map (f4a h0 l0 h1 l1 p t s))))))) (fun _ => by kernel_rfl) (fun w M => c_U16 (sumS (bs ((List.range 20).map (f4a h0 l0 h1 l1 p t s)))) w M.laid) ?_
  intro u18 M
  refine pl_nil ?_
  refine au_then ?_
  refine ⟨(M.drop (.cons_cons _ (.cons _ (.cons_cons _ (.slnil))))), ?_⟩
  refine hl_end (by kernel_rfl) (by kernel_rfl) rfl ?_
  refine pl_copyS M (want_no rfl) (some 61) rfl 54 9 3 5 Tryz.underlying54 inz5 1 g2 1500 80 (w8 (f4a h0 l0 h1 l1 p t s)) rfl 10 1490 1490 (be2 (cv .u64 (sumS (bs ((List.range 20).map (f4a h0 l0 h1 l1 p t s)))))) 2 (by rw [be2_size]; rfl) (by omega) (w8 (cpy (f4a h0 l0 h1 l1 p t s) 10 2 (be2 (cv .u64 (sumS (bs ((List.range 20).map (f4a h0 l0 h1 l1 p t s)))))))) (fun j _ => cpy_w8 _ _ _ _ j) (fun _ => by kernel_rfl) ?_
  intro u19 M
  replace M : Mem ⟨w, []⟩ [⟨g1, .cells (av 9 (ls [.bool false, .int .u64 h0, .int .u64 l0, .bool false, .int .u64 h1, .int .u64 l1, .int .u8 p, .int .u8 t, .string s])) 26⟩, ⟨g2, .cells (av 1500 (w8 (cpy (f4a h0 l0 h1 l1 p t s) 10 2 (be2 (cv .u64 (sumS (bs ((List.range 20).map (f4a h0 l0 h1 l1 p t s))))))))) 80⟩, ⟨g3, .cells (av 7 (ls [.int .u8 69, .int .i64 20, .int .i64 2, .int .i64 8, .int .i64 9, .int .i64 12, .int .i64 0])) 60⟩] u19 := M
  refine pl_nil ?_
  refine au_then ?_
  have hNBb : NB (f4b h0 l0 h1 l1 p t s) := hNBa.c _ _ _
  replace M : Mem ⟨w, []⟩ [⟨g1, .cells (av 9 (ls [.bool false, .int .u64 h0, .int .u64 l0, .bool false, .int .u64 h1, .int .u64 l1, .int .u8 p, .int .u8 t, .string s])) 26⟩, ⟨g2, .cells (av 1500 (w8 (f4b h0 l0 h1 l1 p t s))) 80⟩, ⟨g3, .cells (av 7 (ls [.int .u8 69, .int .i64 20, .int .i64 2, .int .i64 8, .int .i64 9, .int .i64 12, .int .i64 0])) 60⟩] u19 := M
  refine au_then ?_
  refine wp_seq ?_
  refine rg_lit ?_
  refine pl_val (want_no rfl) (some 62) rfl (.int .i64 ((20 + s.size : Nat) : Int)) (fun _ => by kernel_rfl) ?_
  refine pl_val (want_no rfl) (some 63) rfl (.slice (some ⟨g2, 0, none⟩) (20 + s.size) 1500) (run_slAH 80 1500 5 Tryz.underlying80 inz5 _ _ rfl g2 0 (by kernel_rfl) .i64 (20 + s.size) (by kernel_rfl) (by omega) (by decide)) ?_
  refine pl_back M (want_no rfl) (some 64) rfl _ rfl 1 g2 (20 + s.size) 1500 (by kernel_rfl) _ rfl ((List.range (20 + s.size)).map (f4b h0 l0 h1 l1 p t s)) 1500 (sb_avk 1500 (20 + s.size) (by omega) (f4b h0 l0 h1 l1 p t s) 80) (by simp) (NB.l hNBb _) ?_
  refine pl_val (want_no rfl) (some 2) rfl (.string (bs ((List.range (20 + s.size)).map (f4b h0 l0 h1 l1 p t s)))) (fun _ => by kernel_rfl) ?_
  refine pl_nil ?_
  refine au_then ?_
  refine wp_ret ?_
  have e0 : (f4o h0 l0 h1 l1 p t s) = (bs ((List.range (20 + s.size)).map (f4b h0 l0 h1 l1 p t s))) := rfl
  exact bodyPost_ret (v := .string (bs ((List.range (20 + s.size)).map (f4b h0 l0 h1 l1 p t s)))) (results_tmp1 Tryz.results33 _ _ _ (by kernel_rfl)) (by kernel_rfl) ⟨by simp only [e0], below_grown M.old⟩


end Go.Proofs.YtndonmdgplojnaaGreatDoor

/- Packets as bytes: Encode, of both sides. -/
namespace Go.Proofs.YtndonmdgplojnaaGreatDoor
open Go.RowKit

section
variable {P : Program} {ops : Array Oper} {o o2 : Oper} {a : Act} {w : World} {Q : Exit → Act → World → Prop} {S : World → Prop} {n fuel : Nat} {listed : Array Bool}
/-- Number i or number j may come up. -/
theorem hl_two (i j : Nat) (hin : i < n) (hjn : j < n) (hr : Region.ready .any ops listed = [i, j]) (hi : ops.toList[i]? = some o) (hj : ops.toList[j]? = some o2)
    (h : PL P ops (Exit.then (fun a' w' => S w' ∧ HL P ops Q S n fuel (listed.setIfInBounds i true) a' w') Q) [o] a w)
    (h2 : PL P ops (Exit.then (fun a' w' => S w' ∧ HL P ops Q S n fuel (listed.setIfInBounds j true) a' w') Q) [o2] a w) : HL P ops Q S n (fuel + 1) listed a w := by
  refine ⟨fun hQ hB inv => ⟨fun h0 => (by rw [hr] at h0; cases h0), fun m hm => ?_⟩⟩
  have hm' := hm
  rw [hr] at hm
  rcases List.mem_cons.1 hm with rfl | hm
  · exact wpOp_mono (fun a' w' h3 => ⟨fun _ => h3.1, h3.2.out hQ hB (inv.set hm' hin)⟩) (wpOp_one (by rw [← Array.getElem?_toList]; exact hi) h.out)
  · obtain rfl := List.mem_singleton.1 hm
    exact wpOp_mono (fun a' w' h3 => ⟨fun _ => h3.1, h3.2.out hQ hB (inv.set hm' hjn)⟩) (wpOp_one (by rw [← Array.getElem?_toList]; exact hj) h2.out)
end


theorem my_ok {v0 : Bool} {h0 l0 : Int} {v1 : Bool} {h1 l1 n : Int} (h : my v0 h0 l0 v1 h1 l1 n = 0) : v1 = v0 ∧ hdr v0 + n ≤ 1500 ∧ mA v0 h0 l0 = true ∧ mA v1 h1 l1 = true := by
  unfold my at h
  split at h
  · rename_i e
    simp only [Bool.and_eq_true, decide_eq_true_eq] at e
    split at h
    · cases h
    · exact ⟨e.2.symm, by omega, e.1.1, e.1.2⟩
  · cases h
def enB (v0 : Bool) (h0 l0 h1 l1 p t : Int) (s : ByteArray) : ByteArray := if v0 = true then f6o h0 l0 h1 l1 p t s else f4o h0 l0 h1 l1 p t s
def enS (v0 : Bool) (h0 l0 : Int) (v1 : Bool) (h1 l1 p t : Int) (s : ByteArray) : ByteArray := if my v0 h0 l0 v1 h1 l1 (s.size : Int) = 0 then enB v0 h0 l0 h1 l1 p t s else ⟨#[]⟩
theorem c_bytesOf (v0 : Bool) (h0 l0 : Int) (v1 : Bool) (h1 l1 p t : Int) (s : ByteArray) (hm : my v0 h0 l0 v1 h1 l1 (s.size : Int) = 0) (hp : 0 ≤ p ∧ p < 256) (ht : 0 ≤ t ∧ t < 256) (w : World) (hL : Laid w) :
    Calls Tryz.prog 33 #[.agg (av 9 (ls [.bool (v0), .int .u64 h0, .int .u64 l0, .bool (v1), .int .u64 h1, .int .u64 l1, .int .u8 p, .int .u8 t, .string s]))] w fun r w' => r = .returned (.string (enB v0 h0 l0 h1 l1 p t s)) ∧ Below w.heap.size w w' := by
  obtain ⟨e, hb, _⟩ := my_ok hm
  subst e
  cases v1
  · exact c_bytesFour h0 l0 h1 l1 p t s (by have : hdr false = 20 := rfl; omega) hp ht w hL
  · exact c_bytesSix h0 l0 h1 l1 p t s (by have : hdr true = 40 := rfl; omega) hp ht w hL
set_option maxRecDepth 100000 in
set_option maxHeartbeats 4000000 in
set_option linter.unusedSimpArgs false in
theorem c_Encode (v0 : Bool) (h0 l0 : Int) (v1 : Bool) (h1 l1 p t : Int) (s : ByteArray) (hs : s.size ≤ 200000) (hp : 0 ≤ p ∧ p < 256) (ht : 0 ≤ t ∧ t < 256) (w : World) (hL : Laid w)  :
    Calls Tryz.prog 10 #[.agg (av 9 (ls [.bool (v0), .int .u64 h0, .int .u64 l0, .bool (v1), .int .u64 h1, .int .u64 l1, .int .u8 p, .int .u8 t, .string s]))] w fun r w' => r = .returned (.tuple #[.string (enS v0 h0 l0 v1 h1 l1 p t s), .int .i64 (my v0 h0 l0 v1 h1 l1 (s.size : Int))]) ∧ Below w.heap.size w w' := by
  go_enter Tryz.func10, Tryz.ntmps10
  have M := Mem.start hL
  refine wp_seq ?_
  refine rg_lit ?_
  refine pl_new M (want_no rfl) (some 1) rfl (.cells (av 9 (ls [.bool (v0), .int .u64 h0, .int .u64 l0, .bool (v1), .int .u64 h1, .int .u64 l1, .int .u8 p, .int .u8 t, .string s])) 26) (fun _ => by kernel_rfl) ?_
  intro g1 u1 M
  replace M : Mem ⟨w, []⟩ [⟨g1, .cells (av 9 (ls [.bool (v0), .int .u64 h0, .int .u64 l0, .bool (v1), .int .u64 h1, .int .u64 l1, .int .u8 p, .int .u8 t, .string s])) 26⟩] u1 := M
  refine pl_val (want_no rfl) (some 2) rfl (.string ⟨#[]⟩) (fun _ => by kernel_rfl) ?_
  refine pl_val (want_no rfl) (some 3) rfl (.int .i64 0) (fun _ => by kernel_rfl) ?_
  refine pl_nil ?_
  refine au_then ?_
  refine wp_seq ?_
  refine wp_seq ?_
  refine rg_lit ?_
  refine pl_load M (want_no rfl) (some 5) rfl 26 _ rfl 0 g1 0 (by kernel_rfl) 9 26 (ls [.bool (v0), .int .u64 h0, .int .u64 l0, .bool (v1), .int .u64 h1, .int .u64 l1, .int .u8 p, .int .u8 t, .string s]) rfl 9 (ls [.bool (v0), .int .u64 h0, .int .u64 l0, .bool (v1), .int .u64 h1, .int .u64 l1, .int .u8 p, .int .u8 t, .string s]) (fun j _ => by rw [Nat.zero_add]) (by decide) _ Tryz.underlying26 rfl inz26 ?_
  refine pl_call M (want_no rfl) (some 6) rfl 12 #[.agg (av 9 (ls [.bool (v0), .int .u64 h0, .int .u64 l0, .bool (v1), .int .u64 h1, .int .u64 l1, .int .u8 p, .int .u8 t, .string s]))] (.int .i64 (my v0 h0 l0 v1 h1 l1 (s.size : Int))) (fun _ => by kernel_rfl) (fun w M => c_May v0 h0 l0 v1 h1 l1 p t s (by omega) w M.laid) ?_
  intro u2 M
  refine pl_val (want_no rfl) (some 4) rfl (.int .i64 (my v0 h0 l0 v1 h1 l1 (s.size : Int))) (fun _ => by kernel_rfl) ?_
  refine pl_nil ?_
  refine au_then ?_
  refine wp_seq ?_
  refine rg_lit ?_
  refine pl_val (want_no rfl) (some 7) rfl (.int .i64 (my v0 h0 l0 v1 h1 l1 (s.size : Int))) (fun _ => by kernel_rfl) ?_
  by_cases c0 : (my v0 h0 l0 v1 h1 l1 (s.size : Int)) = 0
  · skip
    refine pl_val (want_no rfl) (some 8) rfl (.bool false) (fun w => Eq.trans (b := .ok (.value (.bool (!(decide ((my v0 h0 l0 v1 h1 l1 (s.size : Int)) = 0))))) w) (by kernel_rfl) (by rw [decide_eq_true (c0)]; rfl)) ?_
    refine pl_nil ?_
    refine au_then ?_
    refine wp_cond_false (by kernel_rfl) ?_
    refine wp_skip ?_
    refine au_then ?_
    refine wp_seq ?_
    refine rg_lit ?_
    refine pl_load M (want_no rfl) (some 10) rfl 26 _ rfl 0 g1 0 (by kernel_rfl) 9 26 (ls [.bool (v0), .int .u64 h0, .int .u64 l0, .bool (v1), .int .u64 h1, .int .u64 l1, .int .u8 p, .int .u8 t, .string s]) rfl 9 (ls [.bool (v0), .int .u64 h0, .int .u64 l0, .bool (v1), .int .u64 h1, .int .u64 l1, .int .u8 p, .int .u8 t, .string s]) (fun j _ => by rw [Nat.zero_add]) (by decide) _ Tryz.underlying26 rfl inz26 ?_
    refine pl_call M (want_no rfl) (some 11) rfl 33 #[.agg (av 9 (ls [.bool (v0), .int .u64 h0, .int .u64 l0, .bool (v1), .int .u64 h1, .int .u64 l1, .int .u8 p, .int .u8 t, .string s]))] (.string (enB v0 h0 l0 h1 l1 p t s)) (fun _ => by kernel_rfl) (fun w M => c_bytesOf v0 h0 l0 v1 h1 l1 p t s c0 hp ht w M.laid) ?_
    intro u3 M
    refine pl_val (want_no rfl) (some 2) rfl (.string (enB v0 h0 l0 h1 l1 p t s)) (fun _ => by kernel_rfl) ?_
    refine pl_val (want_no rfl) (some 3) rfl (.int .i64 0) (fun _ => by kernel_rfl) ?_
    refine pl_nil ?_
    refine au_then ?_
    refine wp_ret ?_
    have e0 : (enS v0 h0 l0 v1 h1 l1 p t s) = (enB v0 h0 l0 h1 l1 p t s) := by unfold enS; rw [if_pos c0]
    have e1 : (my v0 h0 l0 v1 h1 l1 (s.size : Int)) = 0 := c0
    exact bodyPost_ret (v := .tuple #[.string (enB v0 h0 l0 h1 l1 p t s), .int .i64 0]) (results_tmp2 Tryz.results10 _ _ _ _ (by kernel_rfl) (by kernel_rfl)) (by kernel_rfl) ⟨by simp only [e0, e1], below_grown M.old⟩
  · skip
    refine pl_val (want_no rfl) (some 8) rfl (.bool true) (fun w => Eq.trans (b := .ok (.value (.bool (!(decide ((my v0 h0 l0 v1 h1 l1 (s.size : Int)) = 0))))) w) (by kernel_rfl) (by rw [decide_eq_false (c0)]; rfl)) ?_
    refine pl_nil ?_
    refine au_then ?_
    refine wp_cond_true (by kernel_rfl) ?_
    refine wp_seq ?_
    refine rg_lit ?_
    refine pl_val (want_no rfl) (some 9) rfl (.int .i64 (my v0 h0 l0 v1 h1 l1 (s.size : Int))) (fun _ => by kernel_rfl) ?_
    refine pl_val (want_no rfl) (some 2) rfl (.string ⟨#[]⟩) (fun _ => by kernel_rfl) ?_
    refine pl_val (want_no rfl) (some 3) rfl (.int .i64 (my v0 h0 l0 v1 h1 l1 (s.size : Int))) (fun _ => by kernel_rfl) ?_
    refine pl_nil ?_
    refine au_then ?_
    refine wp_ret ?_
    refine au_then_ret ?_
    have e0 : (enS v0 h0 l0 v1 h1 l1 p t s) = ⟨#[]⟩ := by unfold enS; rw [if_neg c0]
    exact bodyPost_ret (v := .tuple #[.string ⟨#[]⟩, .int .i64 (my v0 h0 l0 v1 h1 l1 (s.size : Int))]) (results_tmp2 Tryz.results10 _ _ _ _ (by kernel_rfl) (by kernel_rfl)) (by kernel_rfl) ⟨by simp only [e0], below_grown M.old⟩

def e4h (t p : Int) (n : Nat) : ByteArray := (((⟨#[69, 0]⟩ : ByteArray) ++ be2 (cv .u64 (20 + (n : Int)))) ++ (⟨#[0, 0, 0, 0]⟩ : ByteArray)) ++ bs [t, p]
def e4k (h0 l0 h1 l1 : Int) (v0 v1 : Bool) : ByteArray := dB v0 h0 l0 ++ dB v1 h1 l1
def dE4 (h0 l0 h1 l1 p t : Int) (s : ByteArray) (v0 v1 : Bool) : ByteArray := ((e4h t p s.size ++ be2 (cv .u64 (sumS ((e4h t p s.size ++ (⟨#[0, 0]⟩ : ByteArray)) ++ e4k h0 l0 h1 l1 v0 v1)))) ++ e4k h0 l0 h1 l1 v0 v1) ++ s
def dE6 (h0 l0 h1 l1 p t : Int) (s : ByteArray) (v0 v1 : Bool) : ByteArray := (((((⟨#[96, 0, 0, 0]⟩ : ByteArray) ++ be2 (cv .u64 (s.size : Int))) ++ bs [p, t]) ++ dB v0 h0 l0) ++ dB v1 h1 l1) ++ s
def dE (v0 : Bool) (h0 l0 : Int) (v1 : Bool) (h1 l1 p t : Int) (s : ByteArray) : ByteArray := if my v0 h0 l0 v1 h1 l1 (s.size : Int) = 0 then (if v0 = true then dE6 h0 l0 h1 l1 p t s v0 v1 else dE4 h0 l0 h1 l1 p t s v0 v1) else ⟨#[]⟩
theorem e4h_size (t p : Int) (n : Nat) : (e4h t p n).size = 10 := by
  unfold e4h
  rw [ByteArray.size_append, ByteArray.size_append, ByteArray.size_append, be2_size, bs_size]
  rfl
theorem e4k_le (h0 l0 h1 l1 : Int) (v0 v1 : Bool) : (e4k h0 l0 h1 l1 v0 v1).size ≤ 32 := by
  unfold e4k
  rw [ByteArray.size_append]
  have := dB_le v0 h0 l0
  have := dB_le v1 h1 l1
  omega
set_option maxRecDepth 100000 in
set_option maxHeartbeats 4000000 in
set_option linter.unusedSimpArgs false in
theorem d_Encode (v0 : Bool) (h0 l0 : Int) (v1 : Bool) (h1 l1 p t : Int) (s : ByteArray) (hs : s.size ≤ 200000) (hp : 0 ≤ p ∧ p < 256) (ht : 0 ≤ t ∧ t < 256) (w : World) (hL : Laid w)  :
    Calls Tryz.prog 11 #[.agg (av 9 (ls [.bool (v0), .int .u64 h0, .int .u64 l0, .bool (v1), .int .u64 h1, .int .u64 l1, .int .u8 p, .int .u8 t, .string s]))] w fun r w' => r = .returned (.tuple #[.string (dE v0 h0 l0 v1 h1 l1 p t s), .int .i64 (my v0 h0 l0 v1 h1 l1 (s.size : Int))]) ∧ Below w.heap.size w w' := by
  go_enter Tryz.func11, Tryz.ntmps11
  have M := Mem.start hL
  refine wp_seq ?_
  refine rg_lit ?_
  refine pl_new M (want_no rfl) (some 1) rfl (.cells (av 9 (ls [.bool (v0), .int .u64 h0, .int .u64 l0, .bool (v1), .int .u64 h1, .int .u64 l1, .int .u8 p, .int .u8 t, .string s])) 26) (fun _ => by kernel_rfl) ?_
  intro g1 u1 M
  replace M : Mem ⟨w, []⟩ [⟨g1, .cells (av 9 (ls [.bool (v0), .int .u64 h0, .int .u64 l0, .bool (v1), .int .u64 h1, .int .u64 l1, .int .u8 p, .int .u8 t, .string s])) 26⟩] u1 := M
  refine pl_val (want_no rfl) (some 2) rfl (.string ⟨#[]⟩) (fun _ => by kernel_rfl) ?_
  refine pl_val (want_no rfl) (some 3) rfl (.int .i64 0) (fun _ => by kernel_rfl) ?_
  refine pl_nil ?_
  refine au_then ?_
  refine wp_seq ?_
  refine rg_lit ?_
  refine pl_load M (want_no rfl) (some 7) rfl 26 _ rfl 0 g1 0 (by kernel_rfl) 9 26 (ls [.bool (v0), .int .u64 h0, .int .u64 l0, .bool (v1), .int .u64 h1, .int .u64 l1, .int .u8 p, .int .u8 t, .string s]) rfl 9 (ls [.bool (v0), .int .u64 h0, .int .u64 l0, .bool (v1), .int .u64 h1, .int .u64 l1, .int .u8 p, .int .u8 t, .string s]) (fun j _ => by rw [Nat.zero_add]) (by decide) _ Tryz.underlying26 rfl inz26 ?_
  refine pl_call M (want_no rfl) (some 8) rfl 13 #[.agg (av 9 (ls [.bool (v0), .int .u64 h0, .int .u64 l0, .bool (v1), .int .u64 h1, .int .u64 l1, .int .u8 p, .int .u8 t, .string s]))] (.int .i64 (my v0 h0 l0 v1 h1 l1 (s.size : Int))) (fun _ => by kernel_rfl) (fun w M => d_May v0 h0 l0 v1 h1 l1 p t s (by omega) w M.laid) ?_
  intro u2 M
  refine pl_val (want_no rfl) (some 4) rfl (.int .i64 (my v0 h0 l0 v1 h1 l1 (s.size : Int))) (fun _ => by kernel_rfl) ?_
  refine pl_nil ?_
  refine au_then ?_
  refine wp_seq ?_
  refine wp_seq ?_
  refine rg_lit ?_
  refine pl_val (want_no rfl) (some 9) rfl (.int .i64 (my v0 h0 l0 v1 h1 l1 (s.size : Int))) (fun _ => by kernel_rfl) ?_
  by_cases c0 : (my v0 h0 l0 v1 h1 l1 (s.size : Int)) = 0
  · skip
    refine pl_val (want_no rfl) (some 10) rfl (.bool false) (fun w => Eq.trans (b := .ok (.value (.bool (!(decide ((my v0 h0 l0 v1 h1 l1 (s.size : Int)) = 0))))) w) (by kernel_rfl) (by rw [decide_eq_true (c0)]; rfl)) ?_
    refine pl_nil ?_
    refine au_then ?_
    refine wp_cond_false (by kernel_rfl) ?_
    refine wp_skip ?_
    refine au_then ?_
    refine wp_seq ?_
    refine wp_seq ?_
    refine rg_lit ?_
    refine pl_val (want_no rfl) (some 12) rfl (.pointer (some ⟨g1, 0, none⟩)) (fun _ => by kernel_rfl) ?_
    refine pl_val (want_no rfl) (some 13) rfl (.pointer (some ⟨g1, 0, none⟩)) (fun _ => by kernel_rfl) ?_
    rcases Bool.eq_false_or_eq_true (v0) with c1 | c1
    · skip
      refine pl_cell M (want_no rfl) (some 14) rfl 4 _ rfl g1 0 (by kernel_rfl) (.bool true) (fun _ => by kernel_rfl) (fun w M => M.cell 0 rfl (by decide) (congrArg Value.bool c1)) ?_
      refine pl_nil ?_
      refine au_then ?_
      refine wp_cond_true (by kernel_rfl) ?_
      refine wp_seq ?_
      refine rg_held M [⟨g1, .cells (av 9 (ls [.bool (v0), .int .u64 h0, .int .u64 l0, .bool (v1), .int .u64 h1, .int .u64 l1, .int .u8 p, .int .u8 t, .string s])) 26⟩] 25 rfl (by kernel_rfl) (by kernel_rfl) (fun _ _ d _ _ h => by cases d <;> exact h) ?_
      intro u3 M
      replace M : Mem ⟨w, []⟩ [⟨g1, .cells (av 9 (ls [.bool (v0), .int .u64 h0, .int .u64 l0, .bool (v1), .int .u64 h1, .int .u64 l1, .int .u8 p, .int .u8 t, .string s])) 26⟩] u3 := M
      refine hl_val M 0 rfl (by decide) (by kernel_rfl) (by kernel_rfl) (want_no rfl) (some 15) rfl (.pointer (some ⟨g1, 8, none⟩)) (fun _ _ => by kernel_rfl) ?_
      refine hl_cell M 1 rfl (by decide) (by kernel_rfl) (by kernel_rfl) (want_no rfl) (some 16) rfl 9 _ rfl g1 8 (by kernel_rfl) (.string s) (fun _ => by kernel_rfl) (fun w M => M.cell 0 rfl (by decide) rfl) ?_
      refine hl_val M 2 rfl (by decide) (by kernel_rfl) (by kernel_rfl) (want_no rfl) (some 17) rfl (.int .i64 (s.size : Int)) (fun _ _ => by kernel_rfl) ?_
      refine hl_val M 3 rfl (by decide) (by kernel_rfl) (by kernel_rfl) (want_no rfl) (some 18) rfl (.int .u64 (cv .u64 (s.size : Int))) (fun _ _ => by kernel_rfl) ?_
      refine hl_val M 6 rfl (by decide) (by kernel_rfl) (by kernel_rfl) (want_no rfl) (some 21) rfl (.pointer (some ⟨g1, 6, none⟩)) (fun _ _ => by kernel_rfl) ?_
      refine hl_cell M 7 rfl (by decide) (by kernel_rfl) (by kernel_rfl) (want_no rfl) (some 22) rfl 5 _ rfl g1 6 (by kernel_rfl) (.int .u8 p) (fun _ => by kernel_rfl) (fun w M => M.cell 0 rfl (by decide) rfl) ?_
      refine hl_val M 8 rfl (by decide) (by kernel_rfl) (by kernel_rfl) (want_no rfl) (some 23) rfl (.pointer (some ⟨g1, 7, none⟩)) (fun _ _ => by kernel_rfl) ?_
      refine hl_cell M 9 rfl (by decide) (by kernel_rfl) (by kernel_rfl) (want_no rfl) (some 24) rfl 5 _ rfl g1 7 (by kernel_rfl) (.int .u8 t) (fun _ => by kernel_rfl) (fun w M => M.cell 0 rfl (by decide) rfl) ?_
      refine hl_val M 13 rfl (by decide) (by kernel_rfl) (by kernel_rfl) (want_no rfl) (some 28) rfl (.pointer (some ⟨g1, 0, none⟩)) (fun _ _ => by kernel_rfl) ?_
      refine hl_load M 14 rfl (by decide) (by kernel_rfl) (by kernel_rfl) (want_no rfl) (some 29) rfl 24 _ rfl 0 g1 0 (by kernel_rfl) 9 26 (ls [.bool (v0), .int .u64 h0, .int .u64 l0, .bool (v1), .int .u64 h1, .int .u64 l1, .int .u8 p, .int .u8 t, .string s]) rfl 3 (ls [.bool (v0), .int .u64 h0, .int .u64 l0]) (part_ls _ 0 3 _ rfl) (by decide) _ Tryz.underlying24 rfl inz24 ?_
      refine hl_val M 17 rfl (by decide) (by kernel_rfl) (by kernel_rfl) (want_no rfl) (some 32) rfl (.pointer (some ⟨g1, 3, none⟩)) (fun _ _ => by kernel_rfl) ?_
      refine hl_load M 18 rfl (by decide) (by kernel_rfl) (by kernel_rfl) (want_no rfl) (some 33) rfl 24 _ rfl 0 g1 3 (by kernel_rfl) 9 26 (ls [.bool (v0), .int .u64 h0, .int .u64 l0, .bool (v1), .int .u64 h1, .int .u64 l1, .int .u8 p, .int .u8 t, .string s]) rfl 3 (ls [.bool (v1), .int .u64 h1, .int .u64 l1]) (part_ls _ 3 3 _ rfl) (by decide) _ Tryz.underlying24 rfl inz24 ?_
      refine hl_val M 21 rfl (by decide) (by kernel_rfl) (by kernel_rfl) (want_no rfl) (some 36) rfl (.pointer (some ⟨g1, 8, none⟩)) (fun _ _ => by kernel_rfl) ?_
      refine hl_cell M 22 rfl (by decide) (by kernel_rfl) (by kernel_rfl) (want_no rfl) (some 37) rfl 9 _ rfl g1 8 (by kernel_rfl) (.string s) (fun _ => by kernel_rfl) (fun w M => M.cell 0 rfl (by decide) rfl) ?_
      refine hl_two 4 10 (by decide) (by decide) (by kernel_rfl) rfl rfl ?_ ?_
      · skip
        refine pl_call M (want_no rfl) (some 19) rfl 34 #[.int .u64 (cv .u64 (s.size : Int)), .int .i64 2] (.string (be2 (cv .u64 (s.size : Int)))) (fun _ => by kernel_rfl) (fun w M => c_num2 (cv .u64 (s.size : Int)) w M.laid) ?_
        intro u4 M
        refine pl_nil ?_
        refine au_then ?_
        refine ⟨M, ?_⟩
        refine hl_val M 5 rfl (by decide) (by kernel_rfl) (by kernel_rfl) (want_no rfl) (some 20) rfl (.string ((⟨#[96, 0, 0, 0]⟩ : ByteArray) ++ (be2 (cv .u64 (s.size : Int))))) (fun w _ => (run_cat 9 9 _ _ rfl ⟨#[96, 0, 0, 0]⟩ (be2 (cv .u64 (s.size : Int))) (by kernel_rfl) (by kernel_rfl) (by (try simp only [ByteArray.size_append, be2_size, bs_size, e4h_size, List.length_cons, List.length_nil]); have q0 := dB_le v0 h0 l0; have q1 := dB_le v1 h1 l1; have q2 := e4k_le h0 l0 h1 l1 v0 v1; have q3 : (⟨#[96, 0, 0, 0]⟩ : ByteArray).size = 4 := rfl; have q4 : (⟨#[69, 0]⟩ : ByteArray).size = 2 := rfl; have q5 : (⟨#[0, 0, 0, 0]⟩ : ByteArray).size = 4 := rfl; have q6 : (⟨#[0, 0]⟩ : ByteArray).size = 2 := rfl; omega)) w) ?_
        refine hl_two 10 15 (by decide) (by decide) (by kernel_rfl) rfl rfl ?_ ?_
        · skip
          refine pl_mk M (want_no rfl) (some 25) rfl (fun g2 => .slice (some ⟨g2, 0, none⟩) 2 2) (.cells (av 2 (ls [.int .u8 p, .int .u8 t])) 5) (fun _ => by kernel_rfl) ?_
          intro g2 u5 M
          replace M : Mem ⟨w, []⟩ [⟨g1, .cells (av 9 (ls [.bool (v0), .int .u64 h0, .int .u64 l0, .bool (v1), .int .u64 h1, .int .u64 l1, .int .u8 p, .int .u8 t, .string s])) 26⟩, ⟨g2, .cells (av 2 (ls [.int .u8 p, .int .u8 t])) 5⟩] u5 := M
          refine pl_nil ?_
          refine au_then ?_
          refine ⟨(M.drop (.cons_cons _ (.cons _ (.slnil)))), ?_⟩
          refine hl_two 11 15 (by decide) (by decide) (by kernel_rfl) rfl rfl ?_ ?_
          · skip
            refine pl_back M (want_no rfl) (some 26) rfl _ rfl 1 g2 2 2 (by kernel_rfl) _ rfl [p, t] 2 (sb_ls [p, t] _) rfl (by intro x hx; simp only [List.mem_cons, List.mem_nil_iff, or_false] at hx; rcases hx with rfl | rfl <;> assumption) ?_
            refine pl_nil ?_
            refine au_then ?_
            refine ⟨(M.drop (.cons_cons _ (.cons _ (.slnil)))), ?_⟩
            refine hl_val (M.drop (.cons_cons _ (.cons _ (.slnil)))) 12 rfl (by decide) (by kernel_rfl) (by kernel_rfl) (want_no rfl) (some 27) rfl (.string (((⟨#[96, 0, 0, 0]⟩ : ByteArray) ++ (be2 (cv .u64 (s.size : Int)))) ++ (bs [p, t]))) (fun w _ => (run_cat 9 9 _ _ rfl ((⟨#[96, 0, 0, 0]⟩ : ByteArray) ++ (be2 (cv .u64 (s.size : Int)))) (bs [p, t]) (by kernel_rfl) (by kernel_rfl) (by (try simp only [ByteArray.size_append, be2_size, bs_size, e4h_size, List.length_cons, List.length_nil]); have q0 := dB_le v0 h0 l0; have q1 := dB_le v1 h1 l1; have q2 := e4k_le h0 l0 h1 l1 v0 v1; have q3 : (⟨#[96, 0, 0, 0]⟩ : ByteArray).size = 4 := rfl; have q4 : (⟨#[69, 0]⟩ : ByteArray).size = 2 := rfl; have q5 : (⟨#[0, 0, 0, 0]⟩ : ByteArray).size = 4 := rfl; have q6 : (⟨#[0, 0]⟩ : ByteArray).size = 2 := rfl; omega)) w) ?_
            refine hl_one 15 (by decide) (by kernel_rfl) rfl ?_
            refine pl_call M (want_no rfl) (some 30) rfl 35 #[.agg (av 3 (ls [.bool (v0), .int .u64 h0, .int .u64 l0]))] (.string (dB v0 h0 l0)) (fun _ => by kernel_rfl) (fun w M => d_Bytes v0 h0 l0 w M.laid) ?_
            intro u6 M
            refine pl_nil ?_
            refine au_then ?_
            refine ⟨(M.drop (.cons_cons _ (.cons _ (.slnil)))), ?_⟩
            refine hl_val (M.drop (.cons_cons _ (.cons _ (.slnil)))) 16 rfl (by decide) (by kernel_rfl) (by kernel_rfl) (want_no rfl) (some 31) rfl (.string ((((⟨#[96, 0, 0, 0]⟩ : ByteArray) ++ (be2 (cv .u64 (s.size : Int)))) ++ (bs [p, t])) ++ (dB v0 h0 l0))) (fun w _ => (run_cat 9 9 _ _ rfl (((⟨#[96, 0, 0, 0]⟩ : ByteArray) ++ (be2 (cv .u64 (s.size : Int)))) ++ (bs [p, t])) (dB v0 h0 l0) (by kernel_rfl) (by kernel_rfl) (by (try simp only [ByteArray.size_append, be2_size, bs_size, e4h_size, List.length_cons, List.length_nil]); have q0 := dB_le v0 h0 l0; have q1 := dB_le v1 h1 l1; have q2 := e4k_le h0 l0 h1 l1 v0 v1; have q3 : (⟨#[96, 0, 0, 0]⟩ : ByteArray).size = 4 := rfl; have q4 : (⟨#[69, 0]⟩ : ByteArray).size = 2 := rfl; have q5 : (⟨#[0, 0, 0, 0]⟩ : ByteArray).size = 4 := rfl; have q6 : (⟨#[0, 0]⟩ : ByteArray).size = 2 := rfl; omega)) w) ?_
            refine hl_one 19 (by decide) (by kernel_rfl) rfl ?_
            refine pl_call M (want_no rfl) (some 34) rfl 35 #[.agg (av 3 (ls [.bool (v1), .int .u64 h1, .int .u64 l1]))] (.string (dB v1 h1 l1)) (fun _ => by kernel_rfl) (fun w M => d_Bytes v1 h1 l1 w M.laid) ?_
            intro u7 M
            refine pl_nil ?_
            refine au_then ?_
            refine ⟨(M.drop (.cons_cons _ (.cons _ (.slnil)))), ?_⟩
            refine hl_val (M.drop (.cons_cons _ (.cons _ (.slnil)))) 20 rfl (by decide) (by kernel_rfl) (by kernel_rfl) (want_no rfl) (some 35) rfl (.string (((((⟨#[96, 0, 0, 0]⟩ : ByteArray) ++ (be2 (cv .u64 (s.size : Int)))) ++ (bs [p, t])) ++ (dB v0 h0 l0)) ++ (dB v1 h1 l1))) (fun w _ => (run_cat 9 9 _ _ rfl ((((⟨#[96, 0, 0, 0]⟩ : ByteArray) ++ (be2 (cv .u64 (s.size : Int)))) ++ (bs [p, t])) ++ (dB v0 h0 l0)) (dB v1 h1 l1) (by kernel_rfl) (by kernel_rfl) (by (try simp only [ByteArray.size_append, be2_size, bs_size, e4h_size, List.length_cons, List.length_nil]); have q0 := dB_le v0 h0 l0; have q1 := dB_le v1 h1 l1; have q2 := e4k_le h0 l0 h1 l1 v0 v1; have q3 : (⟨#[96, 0, 0, 0]⟩ : ByteArray).size = 4 := rfl; have q4 : (⟨#[69, 0]⟩ : ByteArray).size = 2 := rfl; have q5 : (⟨#[0, 0, 0, 0]⟩ : ByteArray).size = 4 := rfl; have q6 : (⟨#[0, 0]⟩ : ByteArray).size = 2 := rfl; omega)) w) ?_
            refine hl_val (M.drop (.cons_cons _ (.cons _ (.slnil)))) 23 rfl (by decide) (by kernel_rfl) (by kernel_rfl) (want_no rfl) (some 38) rfl (.string ((((((⟨#[96, 0, 0, 0]⟩ : ByteArray) ++ (be2 (cv .u64 (s.size : Int)))) ++ (bs [p, t])) ++ (dB v0 h0 l0)) ++ (dB v1 h1 l1)) ++ s)) (fun w _ => (run_cat 9 9 _ _ rfl (((((⟨#[96, 0, 0, 0]⟩ : ByteArray) ++ (be2 (cv .u64 (s.size : Int)))) ++ (bs [p, t])) ++ (dB v0 h0 l0)) ++ (dB v1 h1 l1)) s (by kernel_rfl) (by kernel_rfl) (by (try simp only [ByteArray.size_append, be2_size, bs_size, e4h_size, List.length_cons, List.length_nil]); have q0 := dB_le v0 h0 l0; have q1 := dB_le v1 h1 l1; have q2 := e4k_le h0 l0 h1 l1 v0 v1; have q3 : (⟨#[96, 0, 0, 0]⟩ : ByteArray).size = 4 := rfl; have q4 : (⟨#[69, 0]⟩ : ByteArray).size = 2 := rfl; have q5 : (⟨#[0, 0, 0, 0]⟩ : ByteArray).size = 4 := rfl; have q6 : (⟨#[0, 0]⟩ : ByteArray).size = 2 := rfl; omega)) w) ?_
            refine hl_val (M.drop (.cons_cons _ (.cons _ (.slnil)))) 24 rfl (by decide) (by kernel_rfl) (by kernel_rfl) (want_no rfl) (some 2) rfl (.string ((((((⟨#[96, 0, 0, 0]⟩ : ByteArray) ++ (be2 (cv .u64 (s.size : Int)))) ++ (bs [p, t])) ++ (dB v0 h0 l0)) ++ (dB v1 h1 l1)) ++ s)) (fun _ _ => by kernel_rfl) ?_
            refine hl_end (by kernel_rfl) (by kernel_rfl) rfl ?_
            refine pl_val (want_no rfl) (some 3) rfl (.int .i64 0) (fun _ => by kernel_rfl) ?_
            refine pl_nil ?_
            refine au_then ?_
            refine au_then ?_
            refine wp_ret ?_
            refine au_then_ret ?_
            have e0 : (dE v0 h0 l0 v1 h1 l1 p t s) = ((((((⟨#[96, 0, 0, 0]⟩ : ByteArray) ++ (be2 (cv .u64 (s.size : Int)))) ++ (bs [p, t])) ++ (dB v0 h0 l0)) ++ (dB v1 h1 l1)) ++ s) := by unfold dE; rw [if_pos c0, if_pos c1]; rfl
            have e1 : (my v0 h0 l0 v1 h1 l1 (s.size : Int)) = 0 := c0
            exact bodyPost_ret (v := .tuple #[.string ((((((⟨#[96, 0, 0, 0]⟩ : ByteArray) ++ (be2 (cv .u64 (s.size : Int)))) ++ (bs [p, t])) ++ (dB v0 h0 l0)) ++ (dB v1 h1 l1)) ++ s), .int .i64 0]) (results_tmp2 Tryz.results11 _ _ _ _ (by kernel_rfl) (by kernel_rfl)) (by kernel_rfl) ⟨by simp only [e0, e1], below_grown M.old⟩
          · skip
            refine pl_call M (want_no rfl) (some 30) rfl 35 #[.agg (av 3 (ls [.bool (v0), .int .u64 h0, .int .u64 l0]))] (.string (dB v0 h0 l0)) (fun _ => by kernel_rfl) (fun w M => d_Bytes v0 h0 l0 w M.laid) ?_
            intro u6 M
            refine pl_nil ?_
            refine au_then ?_
            refine ⟨(M.drop (.cons_cons _ (.cons _ (.slnil)))), ?_⟩
            refine hl_two 11 19 (by decide) (by decide) (by kernel_rfl) rfl rfl ?_ ?_
            · skip
              refine pl_back M (want_no rfl) (some 26) rfl _ rfl 1 g2 2 2 (by kernel_rfl) _ rfl [p, t] 2 (sb_ls [p, t] _) rfl (by intro x hx; simp only [List.mem_cons, List.mem_nil_iff, or_false] at hx; rcases hx with rfl | rfl <;> assumption) ?_
              refine pl_nil ?_
              refine au_then ?_
              refine ⟨(M.drop (.cons_cons _ (.cons _ (.slnil)))), ?_⟩
              refine hl_val (M.drop (.cons_cons _ (.cons _ (.slnil)))) 12 rfl (by decide) (by kernel_rfl) (by kernel_rfl) (want_no rfl) (some 27) rfl (.string (((⟨#[96, 0, 0, 0]⟩ : ByteArray) ++ (be2 (cv .u64 (s.size : Int)))) ++ (bs [p, t]))) (fun w _ => (run_cat 9 9 _ _ rfl ((⟨#[96, 0, 0, 0]⟩ : ByteArray) ++ (be2 (cv .u64 (s.size : Int)))) (bs [p, t]) (by kernel_rfl) (by kernel_rfl) (by (try simp only [ByteArray.size_append, be2_size, bs_size, e4h_size, List.length_cons, List.length_nil]); have q0 := dB_le v0 h0 l0; have q1 := dB_le v1 h1 l1; have q2 := e4k_le h0 l0 h1 l1 v0 v1; have q3 : (⟨#[96, 0, 0, 0]⟩ : ByteArray).size = 4 := rfl; have q4 : (⟨#[69, 0]⟩ : ByteArray).size = 2 := rfl; have q5 : (⟨#[0, 0, 0, 0]⟩ : ByteArray).size = 4 := rfl; have q6 : (⟨#[0, 0]⟩ : ByteArray).size = 2 := rfl; omega)) w) ?_
              refine hl_val (M.drop (.cons_cons _ (.cons _ (.slnil)))) 16 rfl (by decide) (by kernel_rfl) (by kernel_rfl) (want_no rfl) (some 31) rfl (.string ((((⟨#[96, 0, 0, 0]⟩ : ByteArray) ++ (be2 (cv .u64 (s.size : Int)))) ++ (bs [p, t])) ++ (dB v0 h0 l0))) (fun w _ => (run_cat 9 9 _ _ rfl (((⟨#[96, 0, 0, 0]⟩ : ByteArray) ++ (be2 (cv .u64 (s.size : Int)))) ++ (bs [p, t])) (dB v0 h0 l0) (by kernel_rfl) (by kernel_rfl) (by (try simp only [ByteArray.size_append, be2_size, bs_size, e4h_size, List.length_cons, List.length_nil]); have q0 := dB_le v0 h0 l0; have q1 := dB_le v1 h1 l1; have q2 := e4k_le h0 l0 h1 l1 v0 v1; have q3 : (⟨#[96, 0, 0, 0]⟩ : ByteArray).size = 4 := rfl; have q4 : (⟨#[69, 0]⟩ : ByteArray).size = 2 := rfl; have q5 : (⟨#[0, 0, 0, 0]⟩ : ByteArray).size = 4 := rfl; have q6 : (⟨#[0, 0]⟩ : ByteArray).size = 2 := rfl; omega)) w) ?_
              refine hl_one 19 (by decide) (by kernel_rfl) rfl ?_
              refine pl_call M (want_no rfl) (some 34) rfl 35 #[.agg (av 3 (ls [.bool (v1), .int .u64 h1, .int .u64 l1]))] (.string (dB v1 h1 l1)) (fun _ => by kernel_rfl) (fun w M => d_Bytes v1 h1 l1 w M.laid) ?_
              intro u7 M
              refine pl_nil ?_
              refine au_then ?_
              refine ⟨(M.drop (.cons_cons _ (.cons _ (.slnil)))), ?_⟩
              refine hl_val (M.drop (.cons_cons _ (.cons _ (.slnil)))) 20 rfl (by decide) (by kernel_rfl) (by kernel_rfl) (want_no rfl) (some 35) rfl (.string (((((⟨#[96, 0, 0, 0]⟩ : ByteArray) ++ (be2 (cv .u64 (s.size : Int)))) ++ (bs [p, t])) ++ (dB v0 h0 l0)) ++ (dB v1 h1 l1))) (fun w _ => (run_cat 9 9 _ _ rfl ((((⟨#[96, 0, 0, 0]⟩ : ByteArray) ++ (be2 (cv .u64 (s.size : Int)))) ++ (bs [p, t])) ++ (dB v0 h0 l0)) (dB v1 h1 l1) (by kernel_rfl) (by kernel_rfl) (by (try simp only [ByteArray.size_append, be2_size, bs_size, e4h_size, List.length_cons, List.length_nil]); have q0 := dB_le v0 h0 l0; have q1 := dB_le v1 h1 l1; have q2 := e4k_le h0 l0 h1 l1 v0 v1; have q3 : (⟨#[96, 0, 0, 0]⟩ : ByteArray).size = 4 := rfl; have q4 : (⟨#[69, 0]⟩ : ByteArray).size = 2 := rfl; have q5 : (⟨#[0, 0, 0, 0]⟩ : ByteArray).size = 4 := rfl; have q6 : (⟨#[0, 0]⟩ : ByteArray).size = 2 := rfl; omega)) w) ?_
              refine hl_val (M.drop (.cons_cons _ (.cons _ (.slnil)))) 23 rfl (by decide) (by kernel_rfl) (by kernel_rfl) (want_no rfl) (some 38) rfl (.string ((((((⟨#[96, 0, 0, 0]⟩ : ByteArray) ++ (be2 (cv .u64 (s.size : Int)))) ++ (bs [p, t])) ++ (dB v0 h0 l0)) ++ (dB v1 h1 l1)) ++ s)) (fun w _ => (run_cat 9 9 _ _ rfl (((((⟨#[96, 0, 0, 0]⟩ : ByteArray) ++ (be2 (cv .u64 (s.size : Int)))) ++ (bs [p, t])) ++ (dB v0 h0 l0)) ++ (dB v1 h1 l1)) s (by kernel_rfl) (by kernel_rfl) (by (try simp only [ByteArray.size_append, be2_size, bs_size, e4h_size, List.length_cons, List.length_nil]); have q0 := dB_le v0 h0 l0; have q1 := dB_le v1 h1 l1; have q2 := e4k_le h0 l0 h1 l1 v0 v1; have q3 : (⟨#[96, 0, 0, 0]⟩ : ByteArray).size = 4 := rfl; have q4 : (⟨#[69, 0]⟩ : ByteArray).size = 2 := rfl; have q5 : (⟨#[0, 0, 0, 0]⟩ : ByteArray).size = 4 := rfl; have q6 : (⟨#[0, 0]⟩ : ByteArray).size = 2 := rfl; omega)) w) ?_
              refine hl_val (M.drop (.cons_cons _ (.cons _ (.slnil)))) 24 rfl (by decide) (by kernel_rfl) (by kernel_rfl) (want_no rfl) (some 2) rfl (.string ((((((⟨#[96, 0, 0, 0]⟩ : ByteArray) ++ (be2 (cv .u64 (s.size : Int)))) ++ (bs [p, t])) ++ (dB v0 h0 l0)) ++ (dB v1 h1 l1)) ++ s)) (fun _ _ => by kernel_rfl) ?_
              refine hl_end (by kernel_rfl) (by kernel_rfl) rfl ?_
              refine pl_val (want_no rfl) (some 3) rfl (.int .i64 0) (fun _ => by kernel_rfl) ?_
              refine pl_nil ?_
              refine au_then ?_
              refine au_then ?_
              refine wp_ret ?_
              refine au_then_ret ?_
              have e0 : (dE v0 h0 l0 v1 h1 l1 p t s) = ((((((⟨#[96, 0, 0, 0]⟩ : ByteArray) ++ (be2 (cv .u64 (s.size : Int)))) ++ (bs [p, t])) ++ (dB v0 h0 l0)) ++ (dB v1 h1 l1)) ++ s) := by unfold dE; rw [if_pos c0, if_pos c1]; rfl
              have e1 : (my v0 h0 l0 v1 h1 l1 (s.size : Int)) = 0 := c0
              exact bodyPost_ret (v := .tuple #[.string ((((((⟨#[96, 0, 0, 0]⟩ : ByteArray) ++ (be2 (cv .u64 (s.size : Int)))) ++ (bs [p, t])) ++ (dB v0 h0 l0)) ++ (dB v1 h1 l1)) ++ s), .int .i64 0]) (results_tmp2 Tryz.results11 _ _ _ _ (by kernel_rfl) (by kernel_rfl)) (by kernel_rfl) ⟨by simp only [e0, e1], below_grown M.old⟩
            · skip
              refine pl_call M (want_no rfl) (some 34) rfl 35 #[.agg (av 3 (ls [.bool (v1), .int .u64 h1, .int .u64 l1]))] (.string (dB v1 h1 l1)) (fun _ => by kernel_rfl) (fun w M => d_Bytes v1 h1 l1 w M.laid) ?_
              intro u7 M
              refine pl_nil ?_
              refine au_then ?_
              refine ⟨(M.drop (.cons_cons _ (.cons _ (.slnil)))), ?_⟩
              refine hl_one 11 (by decide) (by kernel_rfl) rfl ?_
              refine pl_back M (want_no rfl) (some 26) rfl _ rfl 1 g2 2 2 (by kernel_rfl) _ rfl [p, t] 2 (sb_ls [p, t] _) rfl (by intro x hx; simp only [List.mem_cons, List.mem_nil_iff, or_false] at hx; rcases hx with rfl | rfl <;> assumption) ?_
              refine pl_nil ?_
              refine au_then ?_
              refine ⟨(M.drop (.cons_cons _ (.cons _ (.slnil)))), ?_⟩
              refine hl_val (M.drop (.cons_cons _ (.cons _ (.slnil)))) 12 rfl (by decide) (by kernel_rfl) (by kernel_rfl) (want_no rfl) (some 27) rfl (.string (((⟨#[96, 0, 0, 0]⟩ : ByteArray) ++ (be2 (cv .u64 (s.size : Int)))) ++ (bs [p, t]))) (fun w _ => (run_cat 9 9 _ _ rfl ((⟨#[96, 0, 0, 0]⟩ : ByteArray) ++ (be2 (cv .u64 (s.size : Int)))) (bs [p, t]) (by kernel_rfl) (by kernel_rfl) (by (try simp only [ByteArray.size_append, be2_size, bs_size, e4h_size, List.length_cons, List.length_nil]); have q0 := dB_le v0 h0 l0; have q1 := dB_le v1 h1 l1; have q2 := e4k_le h0 l0 h1 l1 v0 v1; have q3 : (⟨#[96, 0, 0, 0]⟩ : ByteArray).size = 4 := rfl; have q4 : (⟨#[69, 0]⟩ : ByteArray).size = 2 := rfl; have q5 : (⟨#[0, 0, 0, 0]⟩ : ByteArray).size = 4 := rfl; have q6 : (⟨#[0, 0]⟩ : ByteArray).size = 2 := rfl; omega)) w) ?_
              refine hl_val (M.drop (.cons_cons _ (.cons _ (.slnil)))) 16 rfl (by decide) (by kernel_rfl) (by kernel_rfl) (want_no rfl) (some 31) rfl (.string ((((⟨#[96, 0, 0, 0]⟩ : ByteArray) ++ (be2 (cv .u64 (s.size : Int)))) ++ (bs [p, t])) ++ (dB v0 h0 l0))) (fun w _ => (run_cat 9 9 _ _ rfl (((⟨#[96, 0, 0, 0]⟩ : ByteArray) ++ (be2 (cv .u64 (s.size : Int)))) ++ (bs [p, t])) (dB v0 h0 l0) (by kernel_rfl) (by kernel_rfl) (by (try simp only [ByteArray.size_append, be2_size, bs_size, e4h_size, List.length_cons, List.length_nil]); have q0 := dB_le v0 h0 l0; have q1 := dB_le v1 h1 l1; have q2 := e4k_le h0 l0 h1 l1 v0 v1; have q3 : (⟨#[96, 0, 0, 0]⟩ : ByteArray).size = 4 := rfl; have q4 : (⟨#[69, 0]⟩ : ByteArray).size = 2 := rfl; have q5 : (⟨#[0, 0, 0, 0]⟩ : ByteArray).size = 4 := rfl; have q6 : (⟨#[0, 0]⟩ : ByteArray).size = 2 := rfl; omega)) w) ?_
              refine hl_val (M.drop (.cons_cons _ (.cons _ (.slnil)))) 20 rfl (by decide) (by kernel_rfl) (by kernel_rfl) (want_no rfl) (some 35) rfl (.string (((((⟨#[96, 0, 0, 0]⟩ : ByteArray) ++ (be2 (cv .u64 (s.size : Int)))) ++ (bs [p, t])) ++ (dB v0 h0 l0)) ++ (dB v1 h1 l1))) (fun w _ => (run_cat 9 9 _ _ rfl ((((⟨#[96, 0, 0, 0]⟩ : ByteArray) ++ (be2 (cv .u64 (s.size : Int)))) ++ (bs [p, t])) ++ (dB v0 h0 l0)) (dB v1 h1 l1) (by kernel_rfl) (by kernel_rfl) (by (try simp only [ByteArray.size_append, be2_size, bs_size, e4h_size, List.length_cons, List.length_nil]); have q0 := dB_le v0 h0 l0; have q1 := dB_le v1 h1 l1; have q2 := e4k_le h0 l0 h1 l1 v0 v1; have q3 : (⟨#[96, 0, 0, 0]⟩ : ByteArray).size = 4 := rfl; have q4 : (⟨#[69, 0]⟩ : ByteArray).size = 2 := rfl; have q5 : (⟨#[0, 0, 0, 0]⟩ : ByteArray).size = 4 := rfl; have q6 : (⟨#[0, 0]⟩ : ByteArray).size = 2 := rfl; omega)) w) ?_
              refine hl_val (M.drop (.cons_cons _ (.cons _ (.slnil)))) 23 rfl (by decide) (by kernel_rfl) (by kernel_rfl) (want_no rfl) (some 38) rfl (.string ((((((⟨#[96, 0, 0, 0]⟩ : ByteArray) ++ (be2 (cv .u64 (s.size : Int)))) ++ (bs [p, t])) ++ (dB v0 h0 l0)) ++ (dB v1 h1 l1)) ++ s)) (fun w _ => (run_cat 9 9 _ _ rfl (((((⟨#[96, 0, 0, 0]⟩ : ByteArray) ++ (be2 (cv .u64 (s.size : Int)))) ++ (bs [p, t])) ++ (dB v0 h0 l0)) ++ (dB v1 h1 l1)) s (by kernel_rfl) (by kernel_rfl) (by (try simp only [ByteArray.size_append, be2_size, bs_size, e4h_size, List.length_cons, List.length_nil]); have q0 := dB_le v0 h0 l0; have q1 := dB_le v1 h1 l1; have q2 := e4k_le h0 l0 h1 l1 v0 v1; have q3 : (⟨#[96, 0, 0, 0]⟩ : ByteArray).size = 4 := rfl; have q4 : (⟨#[69, 0]⟩ : ByteArray).size = 2 := rfl; have q5 : (⟨#[0, 0, 0, 0]⟩ : ByteArray).size = 4 := rfl; have q6 : (⟨#[0, 0]⟩ : ByteArray).size = 2 := rfl; omega)) w) ?_
              refine hl_val (M.drop (.cons_cons _ (.cons _ (.slnil)))) 24 rfl (by decide) (by kernel_rfl) (by kernel_rfl) (want_no rfl) (some 2) rfl (.string ((((((⟨#[96, 0, 0, 0]⟩ : ByteArray) ++ (be2 (cv .u64 (s.size : Int)))) ++ (bs [p, t])) ++ (dB v0 h0 l0)) ++ (dB v1 h1 l1)) ++ s)) (fun _ _ => by kernel_rfl) ?_
              refine hl_end (by kernel_rfl) (by kernel_rfl) rfl ?_
              refine pl_val (want_no rfl) (some 3) rfl (.int .i64 0) (fun _ => by kernel_rfl) ?_
              refine pl_nil ?_
              refine au_then ?_
              refine au_then ?_
              refine wp_ret ?_
              refine au_then_ret ?_
              have e0 : (dE v0 h0 l0 v1 h1 l1 p t s) = ((((((⟨#[96, 0, 0, 0]⟩ : ByteArray) ++ (be2 (cv .u64 (s.size : Int)))) ++ (bs [p, t])) ++ (dB v0 h0 l0)) ++ (dB v1 h1 l1)) ++ s) := by unfold dE; rw [if_pos c0, if_pos c1]; rfl
              have e1 : (my v0 h0 l0 v1 h1 l1 (s.size : Int)) = 0 := c0
              exact bodyPost_ret (v := .tuple #[.string ((((((⟨#[96, 0, 0, 0]⟩ : ByteArray) ++ (be2 (cv .u64 (s.size : Int)))) ++ (bs [p, t])) ++ (dB v0 h0 l0)) ++ (dB v1 h1 l1)) ++ s), .int .i64 0]) (results_tmp2 Tryz.results11 _ _ _ _ (by kernel_rfl) (by kernel_rfl)) (by kernel_rfl) ⟨by simp only [e0, e1], below_grown M.old⟩
        · skip
          refine pl_call M (want_no rfl) (some 30) rfl 35 #[.agg (av 3 (ls [.bool (v0), .int .u64 h0, .int .u64 l0]))] (.string (dB v0 h0 l0)) (fun _ => by kernel_rfl) (fun w M => d_Bytes v0 h0 l0 w M.laid) ?_
          intro u5 M
          refine pl_nil ?_
          refine au_then ?_
          refine ⟨M, ?_⟩
          refine hl_two 10 19 (by decide) (by decide) (by kernel_rfl) rfl rfl ?_ ?_
          · skip
            refine pl_mk M (want_no rfl) (some 25) rfl (fun g2 => .slice (some ⟨g2, 0, none⟩) 2 2) (.cells (av 2 (ls [.int .u8 p, .int .u8 t])) 5) (fun _ => by kernel_rfl) ?_
            intro g2 u6 M
            replace M : Mem ⟨w, []⟩ [⟨g1, .cells (av 9 (ls [.bool (v0), .int .u64 h0, .int .u64 l0, .bool (v1), .int .u64 h1, .int .u64 l1, .int .u8 p, .int .u8 t, .string s])) 26⟩, ⟨g2, .cells (av 2 (ls [.int .u8 p, .int .u8 t])) 5⟩] u6 := M
            refine pl_nil ?_
            refine au_then ?_
            refine ⟨(M.drop (.cons_cons _ (.cons _ (.slnil)))), ?_⟩
            refine hl_two 11 19 (by decide) (by decide) (by kernel_rfl) rfl rfl ?_ ?_
            · skip
              refine pl_back M (want_no rfl) (some 26) rfl _ rfl 1 g2 2 2 (by kernel_rfl) _ rfl [p, t] 2 (sb_ls [p, t] _) rfl (by intro x hx; simp only [List.mem_cons, List.mem_nil_iff, or_false] at hx; rcases hx with rfl | rfl <;> assumption) ?_
              refine pl_nil ?_
              refine au_then ?_
              refine ⟨(M.drop (.cons_cons _ (.cons _ (.slnil)))), ?_⟩
              refine hl_val (M.drop (.cons_cons _ (.cons _ (.slnil)))) 12 rfl (by decide) (by kernel_rfl) (by kernel_rfl) (want_no rfl) (some 27) rfl (.string (((⟨#[96, 0, 0, 0]⟩ : ByteArray) ++ (be2 (cv .u64 (s.size : Int)))) ++ (bs [p, t]))) (fun w _ => (run_cat 9 9 _ _ rfl ((⟨#[96, 0, 0, 0]⟩ : ByteArray) ++ (be2 (cv .u64 (s.size : Int)))) (bs [p, t]) (by kernel_rfl) (by kernel_rfl) (by (try simp only [ByteArray.size_append, be2_size, bs_size, e4h_size, List.length_cons, List.length_nil]); have q0 := dB_le v0 h0 l0; have q1 := dB_le v1 h1 l1; have q2 := e4k_le h0 l0 h1 l1 v0 v1; have q3 : (⟨#[96, 0, 0, 0]⟩ : ByteArray).size = 4 := rfl; have q4 : (⟨#[69, 0]⟩ : ByteArray).size = 2 := rfl; have q5 : (⟨#[0, 0, 0, 0]⟩ : ByteArray).size = 4 := rfl; have q6 : (⟨#[0, 0]⟩ : ByteArray).size = 2 := rfl; omega)) w) ?_
              refine hl_val (M.drop (.cons_cons _ (.cons _ (.slnil)))) 16 rfl (by decide) (by kernel_rfl) (by kernel_rfl) (want_no rfl) (some 31) rfl (.string ((((⟨#[96, 0, 0, 0]⟩ : ByteArray) ++ (be2 (cv .u64 (s.size : Int)))) ++ (bs [p, t])) ++ (dB v0 h0 l0))) (fun w _ => (run_cat 9 9 _ _ rfl (((⟨#[96, 0, 0, 0]⟩ : ByteArray) ++ (be2 (cv .u64 (s.size : Int)))) ++ (bs [p, t])) (dB v0 h0 l0) (by kernel_rfl) (by kernel_rfl) (by (try simp only [ByteArray.size_append, be2_size, bs_size, e4h_size, List.length_cons, List.length_nil]); have q0 := dB_le v0 h0 l0; have q1 := dB_le v1 h1 l1; have q2 := e4k_le h0 l0 h1 l1 v0 v1; have q3 : (⟨#[96, 0, 0, 0]⟩ : ByteArray).size = 4 := rfl; have q4 : (⟨#[69, 0]⟩ : ByteArray).size = 2 := rfl; have q5 : (⟨#[0, 0, 0, 0]⟩ : ByteArray).size = 4 := rfl; have q6 : (⟨#[0, 0]⟩ : ByteArray).size = 2 := rfl; omega)) w) ?_
              refine hl_one 19 (by decide) (by kernel_rfl) rfl ?_
              refine pl_call M (want_no rfl) (some 34) rfl 35 #[.agg (av 3 (ls [.bool (v1), .int .u64 h1, .int .u64 l1]))] (.string (dB v1 h1 l1)) (fun _ => by kernel_rfl) (fun w M => d_Bytes v1 h1 l1 w M.laid) ?_
              intro u7 M
              refine pl_nil ?_
              refine au_then ?_
              refine ⟨(M.drop (.cons_cons _ (.cons _ (.slnil)))), ?_⟩
              refine hl_val (M.drop (.cons_cons _ (.cons _ (.slnil)))) 20 rfl (by decide) (by kernel_rfl) (by kernel_rfl) (want_no rfl) (some 35) rfl (.string (((((⟨#[96, 0, 0, 0]⟩ : ByteArray) ++ (be2 (cv .u64 (s.size : Int)))) ++ (bs [p, t])) ++ (dB v0 h0 l0)) ++ (dB v1 h1 l1))) (fun w _ => (run_cat 9 9 _ _ rfl ((((⟨#[96, 0, 0, 0]⟩ : ByteArray) ++ (be2 (cv .u64 (s.size : Int)))) ++ (bs [p, t])) ++ (dB v0 h0 l0)) (dB v1 h1 l1) (by kernel_rfl) (by kernel_rfl) (by (try simp only [ByteArray.size_append, be2_size, bs_size, e4h_size, List.length_cons, List.length_nil]); have q0 := dB_le v0 h0 l0; have q1 := dB_le v1 h1 l1; have q2 := e4k_le h0 l0 h1 l1 v0 v1; have q3 : (⟨#[96, 0, 0, 0]⟩ : ByteArray).size = 4 := rfl; have q4 : (⟨#[69, 0]⟩ : ByteArray).size = 2 := rfl; have q5 : (⟨#[0, 0, 0, 0]⟩ : ByteArray).size = 4 := rfl; have q6 : (⟨#[0, 0]⟩ : ByteArray).size = 2 := rfl; omega)) w) ?_
              refine hl_val (M.drop (.cons_cons _ (.cons _ (.slnil)))) 23 rfl (by decide) (by kernel_rfl) (by kernel_rfl) (want_no rfl) (some 38) rfl (.string ((((((⟨#[96, 0, 0, 0]⟩ : ByteArray) ++ (be2 (cv .u64 (s.size : Int)))) ++ (bs [p, t])) ++ (dB v0 h0 l0)) ++ (dB v1 h1 l1)) ++ s)) (fun w _ => (run_cat 9 9 _ _ rfl (((((⟨#[96, 0, 0, 0]⟩ : ByteArray) ++ (be2 (cv .u64 (s.size : Int)))) ++ (bs [p, t])) ++ (dB v0 h0 l0)) ++ (dB v1 h1 l1)) s (by kernel_rfl) (by kernel_rfl) (by (try simp only [ByteArray.size_append, be2_size, bs_size, e4h_size, List.length_cons, List.length_nil]); have q0 := dB_le v0 h0 l0; have q1 := dB_le v1 h1 l1; have q2 := e4k_le h0 l0 h1 l1 v0 v1; have q3 : (⟨#[96, 0, 0, 0]⟩ : ByteArray).size = 4 := rfl; have q4 : (⟨#[69, 0]⟩ : ByteArray).size = 2 := rfl; have q5 : (⟨#[0, 0, 0, 0]⟩ : ByteArray).size = 4 := rfl; have q6 : (⟨#[0, 0]⟩ : ByteArray).size = 2 := rfl; omega)) w) ?_
              refine hl_val (M.drop (.cons_cons _ (.cons _ (.slnil)))) 24 rfl (by decide) (by kernel_rfl) (by kernel_rfl) (want_no rfl) (some 2) rfl (.string ((((((⟨#[96, 0, 0, 0]⟩ : ByteArray) ++ (be2 (cv .u64 (s.size : Int)))) ++ (bs [p, t])) ++ (dB v0 h0 l0)) ++ (dB v1 h1 l1)) ++ s)) (fun _ _ => by kernel_rfl) ?_
              refine hl_end (by kernel_rfl) (by kernel_rfl) rfl ?_
              refine pl_val (want_no rfl) (some 3) rfl (.int .i64 0) (fun _ => by kernel_rfl) ?_
              refine pl_nil ?_
              refine au_then ?_
              refine au_then ?_
              refine wp_ret ?_
              refine au_then_ret ?_
              have e0 : (dE v0 h0 l0 v1 h1 l1 p t s) = ((((((⟨#[96, 0, 0, 0]⟩ : ByteArray) ++ (be2 (cv .u64 (s.size : Int)))) ++ (bs [p, t])) ++ (dB v0 h0 l0)) ++ (dB v1 h1 l1)) ++ s) := by unfold dE; rw [if_pos c0, if_pos c1]; rfl
              have e1 : (my v0 h0 l0 v1 h1 l1 (s.size : Int)) = 0 := c0
              exact bodyPost_ret (v := .tuple #[.string ((((((⟨#[96, 0, 0, 0]⟩ : ByteArray) ++ (be2 (cv .u64 (s.size : Int)))) ++ (bs [p, t])) ++ (dB v0 h0 l0)) ++ (dB v1 h1 l1)) ++ s), .int .i64 0]) (results_tmp2 Tryz.results11 _ _ _ _ (by kernel_rfl) (by kernel_rfl)) (by kernel_rfl) ⟨by simp only [e0, e1], below_grown M.old⟩
            · skip
              refine pl_call M (want_no rfl) (some 34) rfl 35 #[.agg (av 3 (ls [.bool (v1), .int .u64 h1, .int .u64 l1]))] (.string (dB v1 h1 l1)) (fun _ => by kernel_rfl) (fun w M => d_Bytes v1 h1 l1 w M.laid) ?_
              intro u7 M
              refine pl_nil ?_
              refine au_then ?_
              refine ⟨(M.drop (.cons_cons _ (.cons _ (.slnil)))), ?_⟩
              refine hl_one 11 (by decide) (by kernel_rfl) rfl ?_
              refine pl_back M (want_no rfl) (some 26) rfl _ rfl 1 g2 2 2 (by kernel_rfl) _ rfl [p, t] 2 (sb_ls [p, t] _) rfl (by intro x hx; simp only [List.mem_cons, List.mem_nil_iff, or_false] at hx; rcases hx with rfl | rfl <;> assumption) ?_
              refine pl_nil ?_
              refine au_then ?_
              refine ⟨(M.drop (.cons_cons _ (.cons _ (.slnil)))), ?_⟩
              refine hl_val (M.drop (.cons_cons _ (.cons _ (.slnil)))) 12 rfl (by decide) (by kernel_rfl) (by kernel_rfl) (want_no rfl) (some 27) rfl (.string (((⟨#[96, 0, 0, 0]⟩ : ByteArray) ++ (be2 (cv .u64 (s.size : Int)))) ++ (bs [p, t]))) (fun w _ => (run_cat 9 9 _ _ rfl ((⟨#[96, 0, 0, 0]⟩ : ByteArray) ++ (be2 (cv .u64 (s.size : Int)))) (bs [p, t]) (by kernel_rfl) (by kernel_rfl) (by (try simp only [ByteArray.size_append, be2_size, bs_size, e4h_size, List.length_cons, List.length_nil]); have q0 := dB_le v0 h0 l0; have q1 := dB_le v1 h1 l1; have q2 := e4k_le h0 l0 h1 l1 v0 v1; have q3 : (⟨#[96, 0, 0, 0]⟩ : ByteArray).size = 4 := rfl; have q4 : (⟨#[69, 0]⟩ : ByteArray).size = 2 := rfl; have q5 : (⟨#[0, 0, 0, 0]⟩ : ByteArray).size = 4 := rfl; have q6 : (⟨#[0, 0]⟩ : ByteArray).size = 2 := rfl; omega)) w) ?_
              refine hl_val (M.drop (.cons_cons _ (.cons _ (.slnil)))) 16 rfl (by decide) (by kernel_rfl) (by kernel_rfl) (want_no rfl) (some 31) rfl (.string ((((⟨#[96, 0, 0, 0]⟩ : ByteArray) ++ (be2 (cv .u64 (s.size : Int)))) ++ (bs [p, t])) ++ (dB v0 h0 l0))) (fun w _ => (run_cat 9 9 _ _ rfl (((⟨#[96, 0, 0, 0]⟩ : ByteArray) ++ (be2 (cv .u64 (s.size : Int)))) ++ (bs [p, t])) (dB v0 h0 l0) (by kernel_rfl) (by kernel_rfl) (by (try simp only [ByteArray.size_append, be2_size, bs_size, e4h_size, List.length_cons, List.length_nil]); have q0 := dB_le v0 h0 l0; have q1 := dB_le v1 h1 l1; have q2 := e4k_le h0 l0 h1 l1 v0 v1; have q3 : (⟨#[96, 0, 0, 0]⟩ : ByteArray).size = 4 := rfl; have q4 : (⟨#[69, 0]⟩ : ByteArray).size = 2 := rfl; have q5 : (⟨#[0, 0, 0, 0]⟩ : ByteArray).size = 4 := rfl; have q6 : (⟨#[0, 0]⟩ : ByteArray).size = 2 := rfl; omega)) w) ?_
              refine hl_val (M.drop (.cons_cons _ (.cons _ (.slnil)))) 20 rfl (by decide) (by kernel_rfl) (by kernel_rfl) (want_no rfl) (some 35) rfl (.string (((((⟨#[96, 0, 0, 0]⟩ : ByteArray) ++ (be2 (cv .u64 (s.size : Int)))) ++ (bs [p, t])) ++ (dB v0 h0 l0)) ++ (dB v1 h1 l1))) (fun w _ => (run_cat 9 9 _ _ rfl ((((⟨#[96, 0, 0, 0]⟩ : ByteArray) ++ (be2 (cv .u64 (s.size : Int)))) ++ (bs [p, t])) ++ (dB v0 h0 l0)) (dB v1 h1 l1) (by kernel_rfl) (by kernel_rfl) (by (try simp only [ByteArray.size_append, be2_size, bs_size, e4h_size, List.length_cons, List.length_nil]); have q0 := dB_le v0 h0 l0; have q1 := dB_le v1 h1 l1; have q2 := e4k_le h0 l0 h1 l1 v0 v1; have q3 : (⟨#[96, 0, 0, 0]⟩ : ByteArray).size = 4 := rfl; have q4 : (⟨#[69, 0]⟩ : ByteArray).size = 2 := rfl; have q5 : (⟨#[0, 0, 0, 0]⟩ : ByteArray).size = 4 := rfl; have q6 : (⟨#[0, 0]⟩ : ByteArray).size = 2 := rfl; omega)) w) ?_
              refine hl_val (M.drop (.cons_cons _ (.cons _ (.slnil)))) 23 rfl (by decide) (by kernel_rfl) (by kernel_rfl) (want_no rfl) (some 38) rfl (.string ((((((⟨#[96, 0, 0, 0]⟩ : ByteArray) ++ (be2 (cv .u64 (s.size : Int)))) ++ (bs [p, t])) ++ (dB v0 h0 l0)) ++ (dB v1 h1 l1)) ++ s)) (fun w _ => (run_cat 9 9 _ _ rfl (((((⟨#[96, 0, 0, 0]⟩ : ByteArray) ++ (be2 (cv .u64 (s.size : Int)))) ++ (bs [p, t])) ++ (dB v0 h0 l0)) ++ (dB v1 h1 l1)) s (by kernel_rfl) (by kernel_rfl) (by (try simp only [ByteArray.size_append, be2_size, bs_size, e4h_size, List.length_cons, List.length_nil]); have q0 := dB_le v0 h0 l0; have q1 := dB_le v1 h1 l1; have q2 := e4k_le h0 l0 h1 l1 v0 v1; have q3 : (⟨#[96, 0, 0, 0]⟩ : ByteArray).size = 4 := rfl; have q4 : (⟨#[69, 0]⟩ : ByteArray).size = 2 := rfl; have q5 : (⟨#[0, 0, 0, 0]⟩ : ByteArray).size = 4 := rfl; have q6 : (⟨#[0, 0]⟩ : ByteArray).size = 2 := rfl; omega)) w) ?_
              refine hl_val (M.drop (.cons_cons _ (.cons _ (.slnil)))) 24 rfl (by decide) (by kernel_rfl) (by kernel_rfl) (want_no rfl) (some 2) rfl (.string ((((((⟨#[96, 0, 0, 0]⟩ : ByteArray) ++ (be2 (cv .u64 (s.size : Int)))) ++ (bs [p, t])) ++ (dB v0 h0 l0)) ++ (dB v1 h1 l1)) ++ s)) (fun _ _ => by kernel_rfl) ?_
              refine hl_end (by kernel_rfl) (by kernel_rfl) rfl ?_
              refine pl_val (want_no rfl) (some 3) rfl (.int .i64 0) (fun _ => by kernel_rfl) ?_
              refine pl_nil ?_
              refine au_then ?_
              refine au_then ?_
              refine wp_ret ?_
              refine au_then_ret ?_
              have e0 : (dE v0 h0 l0 v1 h1 l1 p t s) = ((((((⟨#[96, 0, 0, 0]⟩ : ByteArray) ++ (be2 (cv .u64 (s.size : Int)))) ++ (bs [p, t])) ++ (dB v0 h0 l0)) ++ (dB v1 h1 l1)) ++ s) := by unfold dE; rw [if_pos c0, if_pos c1]; rfl
              have e1 : (my v0 h0 l0 v1 h1 l1 (s.size : Int)) = 0 := c0
              exact bodyPost_ret (v := .tuple #[.string ((((((⟨#[96, 0, 0, 0]⟩ : ByteArray) ++ (be2 (cv .u64 (s.size : Int)))) ++ (bs [p, t])) ++ (dB v0 h0 l0)) ++ (dB v1 h1 l1)) ++ s), .int .i64 0]) (results_tmp2 Tryz.results11 _ _ _ _ (by kernel_rfl) (by kernel_rfl)) (by kernel_rfl) ⟨by simp only [e0, e1], below_grown M.old⟩
          · skip
            refine pl_call M (want_no rfl) (some 34) rfl 35 #[.agg (av 3 (ls [.bool (v1), .int .u64 h1, .int .u64 l1]))] (.string (dB v1 h1 l1)) (fun _ => by kernel_rfl) (fun w M => d_Bytes v1 h1 l1 w M.laid) ?_
            intro u6 M
            refine pl_nil ?_
            refine au_then ?_
            refine ⟨M, ?_⟩
            refine hl_one 10 (by decide) (by kernel_rfl) rfl ?_
            refine pl_mk M (want_no rfl) (some 25) rfl (fun g2 => .slice (some ⟨g2, 0, none⟩) 2 2) (.cells (av 2 (ls [.int .u8 p, .int .u8 t])) 5) (fun _ => by kernel_rfl) ?_
            intro g2 u7 M
            replace M : Mem ⟨w, []⟩ [⟨g1, .cells (av 9 (ls [.bool (v0), .int .u64 h0, .int .u64 l0, .bool (v1), .int .u64 h1, .int .u64 l1, .int .u8 p, .int .u8 t, .string s])) 26⟩, ⟨g2, .cells (av 2 (ls [.int .u8 p, .int .u8 t])) 5⟩] u7 := M
            refine pl_nil ?_
            refine au_then ?_
            refine ⟨(M.drop (.cons_cons _ (.cons _ (.slnil)))), ?_⟩
            refine hl_one 11 (by decide) (by kernel_rfl) rfl ?_
            refine pl_back M (want_no rfl) (some 26) rfl _ rfl 1 g2 2 2 (by kernel_rfl) _ rfl [p, t] 2 (sb_ls [p, t] _) rfl (by intro x hx; simp only [List.mem_cons, List.mem_nil_iff, or_false] at hx; rcases hx with rfl | rfl <;> assumption) ?_
            refine pl_nil ?_
            refine au_then ?_
            refine ⟨(M.drop (.cons_cons _ (.cons _ (.slnil)))), ?_⟩
            refine hl_val (M.drop (.cons_cons _ (.cons _ (.slnil)))) 12 rfl (by decide) (by kernel_rfl) (by kernel_rfl) (want_no rfl) (some 27) rfl (.string (((⟨#[96, 0, 0, 0]⟩ : ByteArray) ++ (be2 (cv .u64 (s.size : Int)))) ++ (bs [p, t]))) (fun w _ => (run_cat 9 9 _ _ rfl ((⟨#[96, 0, 0, 0]⟩ : ByteArray) ++ (be2 (cv .u64 (s.size : Int)))) (bs [p, t]) (by kernel_rfl) (by kernel_rfl) (by (try simp only [ByteArray.size_append, be2_size, bs_size, e4h_size, List.length_cons, List.length_nil]); have q0 := dB_le v0 h0 l0; have q1 := dB_le v1 h1 l1; have q2 := e4k_le h0 l0 h1 l1 v0 v1; have q3 : (⟨#[96, 0, 0, 0]⟩ : ByteArray).size = 4 := rfl; have q4 : (⟨#[69, 0]⟩ : ByteArray).size = 2 := rfl; have q5 : (⟨#[0, 0, 0, 0]⟩ : ByteArray).size = 4 := rfl; have q6 : (⟨#[0, 0]⟩ : ByteArray).size = 2 := rfl; omega)) w) ?_
            refine hl_val (M.drop (.cons_cons _ (.cons _ (.slnil)))) 16 rfl (by decide) (by kernel_rfl) (by kernel_rfl) (want_no rfl) (some 31) rfl (.string ((((⟨#[96, 0, 0, 0]⟩ : ByteArray) ++ (be2 (cv .u64 (s.size : Int)))) ++ (bs [p, t])) ++ (dB v0 h0 l0))) (fun w _ => (run_cat 9 9 _ _ rfl (((⟨#[96, 0, 0, 0]⟩ : ByteArray) ++ (be2 (cv .u64 (s.size : Int)))) ++ (bs [p, t])) (dB v0 h0 l0) (by kernel_rfl) (by kernel_rfl) (by (try simp only [ByteArray.size_append, be2_size, bs_size, e4h_size, List.length_cons, List.length_nil]); have q0 := dB_le v0 h0 l0; have q1 := dB_le v1 h1 l1; have q2 := e4k_le h0 l0 h1 l1 v0 v1; have q3 : (⟨#[96, 0, 0, 0]⟩ : ByteArray).size = 4 := rfl; have q4 : (⟨#[69, 0]⟩ : ByteArray).size = 2 := rfl; have q5 : (⟨#[0, 0, 0, 0]⟩ : ByteArray).size = 4 := rfl; have q6 : (⟨#[0, 0]⟩ : ByteArray).size = 2 := rfl; omega)) w) ?_
            refine hl_val (M.drop (.cons_cons _ (.cons _ (.slnil)))) 20 rfl (by decide) (by kernel_rfl) (by kernel_rfl) (want_no rfl) (some 35) rfl (.string (((((⟨#[96, 0, 0, 0]⟩ : ByteArray) ++ (be2 (cv .u64 (s.size : Int)))) ++ (bs [p, t])) ++ (dB v0 h0 l0)) ++ (dB v1 h1 l1))) (fun w _ => (run_cat 9 9 _ _ rfl ((((⟨#[96, 0, 0, 0]⟩ : ByteArray) ++ (be2 (cv .u64 (s.size : Int)))) ++ (bs [p, t])) ++ (dB v0 h0 l0)) (dB v1 h1 l1) (by kernel_rfl) (by kernel_rfl) (by (try simp only [ByteArray.size_append, be2_size, bs_size, e4h_size, List.length_cons, List.length_nil]); have q0 := dB_le v0 h0 l0; have q1 := dB_le v1 h1 l1; have q2 := e4k_le h0 l0 h1 l1 v0 v1; have q3 : (⟨#[96, 0, 0, 0]⟩ : ByteArray).size = 4 := rfl; have q4 : (⟨#[69, 0]⟩ : ByteArray).size = 2 := rfl; have q5 : (⟨#[0, 0, 0, 0]⟩ : ByteArray).size = 4 := rfl; have q6 : (⟨#[0, 0]⟩ : ByteArray).size = 2 := rfl; omega)) w) ?_
            refine hl_val (M.drop (.cons_cons _ (.cons _ (.slnil)))) 23 rfl (by decide) (by kernel_rfl) (by kernel_rfl) (want_no rfl) (some 38) rfl (.string ((((((⟨#[96, 0, 0, 0]⟩ : ByteArray) ++ (be2 (cv .u64 (s.size : Int)))) ++ (bs [p, t])) ++ (dB v0 h0 l0)) ++ (dB v1 h1 l1)) ++ s)) (fun w _ => (run_cat 9 9 _ _ rfl (((((⟨#[96, 0, 0, 0]⟩ : ByteArray) ++ (be2 (cv .u64 (s.size : Int)))) ++ (bs [p, t])) ++ (dB v0 h0 l0)) ++ (dB v1 h1 l1)) s (by kernel_rfl) (by kernel_rfl) (by (try simp only [ByteArray.size_append, be2_size, bs_size, e4h_size, List.length_cons, List.length_nil]); have q0 := dB_le v0 h0 l0; have q1 := dB_le v1 h1 l1; have q2 := e4k_le h0 l0 h1 l1 v0 v1; have q3 : (⟨#[96, 0, 0, 0]⟩ : ByteArray).size = 4 := rfl; have q4 : (⟨#[69, 0]⟩ : ByteArray).size = 2 := rfl; have q5 : (⟨#[0, 0, 0, 0]⟩ : ByteArray).size = 4 := rfl; have q6 : (⟨#[0, 0]⟩ : ByteArray).size = 2 := rfl; omega)) w) ?_
            refine hl_val (M.drop (.cons_cons _ (.cons _ (.slnil)))) 24 rfl (by decide) (by kernel_rfl) (by kernel_rfl) (want_no rfl) (some 2) rfl (.string ((((((⟨#[96, 0, 0, 0]⟩ : ByteArray) ++ (be2 (cv .u64 (s.size : Int)))) ++ (bs [p, t])) ++ (dB v0 h0 l0)) ++ (dB v1 h1 l1)) ++ s)) (fun _ _ => by kernel_rfl) ?_
            refine hl_end (by kernel_rfl) (by kernel_rfl) rfl ?_
            refine pl_val (want_no rfl) (some 3) rfl (.int .i64 0) (fun _ => by kernel_rfl) ?_
            refine pl_nil ?_
            refine au_then ?_
            refine au_then ?_
            refine wp_ret ?_
            refine au_then_ret ?_
            have e0 : (dE v0 h0 l0 v1 h1 l1 p t s) = ((((((⟨#[96, 0, 0, 0]⟩ : ByteArray) ++ (be2 (cv .u64 (s.size : Int)))) ++ (bs [p, t])) ++ (dB v0 h0 l0)) ++ (dB v1 h1 l1)) ++ s) := by unfold dE; rw [if_pos c0, if_pos c1]; rfl
            have e1 : (my v0 h0 l0 v1 h1 l1 (s.size : Int)) = 0 := c0
            exact bodyPost_ret (v := .tuple #[.string ((((((⟨#[96, 0, 0, 0]⟩ : ByteArray) ++ (be2 (cv .u64 (s.size : Int)))) ++ (bs [p, t])) ++ (dB v0 h0 l0)) ++ (dB v1 h1 l1)) ++ s), .int .i64 0]) (results_tmp2 Tryz.results11 _ _ _ _ (by kernel_rfl) (by kernel_rfl)) (by kernel_rfl) ⟨by simp only [e0, e1], below_grown M.old⟩
      · skip
        refine pl_mk M (want_no rfl) (some 25) rfl (fun g2 => .slice (some ⟨g2, 0, none⟩) 2 2) (.cells (av 2 (ls [.int .u8 p, .int .u8 t])) 5) (fun _ => by kernel_rfl) ?_
        intro g2 u4 M
        replace M : Mem ⟨w, []⟩ [⟨g1, .cells (av 9 (ls [.bool (v0), .int .u64 h0, .int .u64 l0, .bool (v1), .int .u64 h1, .int .u64 l1, .int .u8 p, .int .u8 t, .string s])) 26⟩, ⟨g2, .cells (av 2 (ls [.int .u8 p, .int .u8 t])) 5⟩] u4 := M
        refine pl_nil ?_
        refine au_then ?_
        refine ⟨(M.drop (.cons_cons _ (.cons _ (.slnil)))), ?_⟩
        refine hl_two 4 11 (by decide) (by decide) (by kernel_rfl) rfl rfl ?_ ?_
        · skip
          refine pl_call M (want_no rfl) (some 19) rfl 34 #[.int .u64 (cv .u64 (s.size : Int)), .int .i64 2] (.string (be2 (cv .u64 (s.size : Int)))) (fun _ => by kernel_rfl) (fun w M => c_num2 (cv .u64 (s.size : Int)) w M.laid) ?_
          intro u5 M
          refine pl_nil ?_
          refine au_then ?_
          refine ⟨(M.drop (.cons_cons _ (.cons _ (.slnil)))), ?_⟩
          refine hl_val (M.drop (.cons_cons _ (.cons _ (.slnil)))) 5 rfl (by decide) (by kernel_rfl) (by kernel_rfl) (want_no rfl) (some 20) rfl (.string ((⟨#[96, 0, 0, 0]⟩ : ByteArray) ++ (be2 (cv .u64 (s.size : Int))))) (fun w _ => (run_cat 9 9 _ _ rfl ⟨#[96, 0, 0, 0]⟩ (be2 (cv .u64 (s.size : Int))) (by kernel_rfl) (by kernel_rfl) (by (try simp only [ByteArray.size_append, be2_size, bs_size, e4h_size, List.length_cons, List.length_nil]); have q0 := dB_le v0 h0 l0; have q1 := dB_le v1 h1 l1; have q2 := e4k_le h0 l0 h1 l1 v0 v1; have q3 : (⟨#[96, 0, 0, 0]⟩ : ByteArray).size = 4 := rfl; have q4 : (⟨#[69, 0]⟩ : ByteArray).size = 2 := rfl; have q5 : (⟨#[0, 0, 0, 0]⟩ : ByteArray).size = 4 := rfl; have q6 : (⟨#[0, 0]⟩ : ByteArray).size = 2 := rfl; omega)) w) ?_
          refine hl_two 11 15 (by decide) (by decide) (by kernel_rfl) rfl rfl ?_ ?_
          · skip
            refine pl_back M (want_no rfl) (some 26) rfl _ rfl 1 g2 2 2 (by kernel_rfl) _ rfl [p, t] 2 (sb_ls [p, t] _) rfl (by intro x hx; simp only [List.mem_cons, List.mem_nil_iff, or_false] at hx; rcases hx with rfl | rfl <;> assumption) ?_
            refine pl_nil ?_
            refine au_then ?_
            refine ⟨(M.drop (.cons_cons _ (.cons _ (.slnil)))), ?_⟩
            refine hl_val (M.drop (.cons_cons _ (.cons _ (.slnil)))) 12 rfl (by decide) (by kernel_rfl) (by kernel_rfl) (want_no rfl) (some 27) rfl (.string (((⟨#[96, 0, 0, 0]⟩ : ByteArray) ++ (be2 (cv .u64 (s.size : Int)))) ++ (bs [p, t]))) (fun w _ => (run_cat 9 9 _ _ rfl ((⟨#[96, 0, 0, 0]⟩ : ByteArray) ++ (be2 (cv .u64 (s.size : Int)))) (bs [p, t]) (by kernel_rfl) (by kernel_rfl) (by (try simp only [ByteArray.size_append, be2_size, bs_size, e4h_size, List.length_cons, List.length_nil]); have q0 := dB_le v0 h0 l0; have q1 := dB_le v1 h1 l1; have q2 := e4k_le h0 l0 h1 l1 v0 v1; have q3 : (⟨#[96, 0, 0, 0]⟩ : ByteArray).size = 4 := rfl; have q4 : (⟨#[69, 0]⟩ : ByteArray).size = 2 := rfl; have q5 : (⟨#[0, 0, 0, 0]⟩ : ByteArray).size = 4 := rfl; have q6 : (⟨#[0, 0]⟩ : ByteArray).size = 2 := rfl; omega)) w) ?_
            refine hl_one 15 (by decide) (by kernel_rfl) rfl ?_
            refine pl_call M (want_no rfl) (some 30) rfl 35 #[.agg (av 3 (ls [.bool (v0), .int .u64 h0, .int .u64 l0]))] (.string (dB v0 h0 l0)) (fun _ => by kernel_rfl) (fun w M => d_Bytes v0 h0 l0 w M.laid) ?_
            intro u6 M
            refine pl_nil ?_
            refine au_then ?_
            refine ⟨(M.drop (.cons_cons _ (.cons _ (.slnil)))), ?_⟩
            refine hl_val (M.drop (.cons_cons _ (.cons _ (.slnil)))) 16 rfl (by decide) (by kernel_rfl) (by kernel_rfl) (want_no rfl) (some 31) rfl (.string ((((⟨#[96, 0, 0, 0]⟩ : ByteArray) ++ (be2 (cv .u64 (s.size : Int)))) ++ (bs [p, t])) ++ (dB v0 h0 l0))) (fun w _ => (run_cat 9 9 _ _ rfl (((⟨#[96, 0, 0, 0]⟩ : ByteArray) ++ (be2 (cv .u64 (s.size : Int)))) ++ (bs [p, t])) (dB v0 h0 l0) (by kernel_rfl) (by kernel_rfl) (by (try simp only [ByteArray.size_append, be2_size, bs_size, e4h_size, List.length_cons, List.length_nil]); have q0 := dB_le v0 h0 l0; have q1 := dB_le v1 h1 l1; have q2 := e4k_le h0 l0 h1 l1 v0 v1; have q3 : (⟨#[96, 0, 0, 0]⟩ : ByteArray).size = 4 := rfl; have q4 : (⟨#[69, 0]⟩ : ByteArray).size = 2 := rfl; have q5 : (⟨#[0, 0, 0, 0]⟩ : ByteArray).size = 4 := rfl; have q6 : (⟨#[0, 0]⟩ : ByteArray).size = 2 := rfl; omega)) w) ?_
            refine hl_one 19 (by decide) (by kernel_rfl) rfl ?_
            refine pl_call M (want_no rfl) (some 34) rfl 35 #[.agg (av 3 (ls [.bool (v1), .int .u64 h1, .int .u64 l1]))] (.string (dB v1 h1 l1)) (fun _ => by kernel_rfl) (fun w M => d_Bytes v1 h1 l1 w M.laid) ?_
            intro u7 M
            refine pl_nil ?_
            refine au_then ?_
            refine ⟨(M.drop (.cons_cons _ (.cons _ (.slnil)))), ?_⟩
            refine hl_val (M.drop (.cons_cons _ (.cons _ (.slnil)))) 20 rfl (by decide) (by kernel_rfl) (by kernel_rfl) (want_no rfl) (some 35) rfl (.string (((((⟨#[96, 0, 0, 0]⟩ : ByteArray) ++ (be2 (cv .u64 (s.size : Int)))) ++ (bs [p, t])) ++ (dB v0 h0 l0)) ++ (dB v1 h1 l1))) (fun w _ => (run_cat 9 9 _ _ rfl ((((⟨#[96, 0, 0, 0]⟩ : ByteArray) ++ (be2 (cv .u64 (s.size : Int)))) ++ (bs [p, t])) ++ (dB v0 h0 l0)) (dB v1 h1 l1) (by kernel_rfl) (by kernel_rfl) (by (try simp only [ByteArray.size_append, be2_size, bs_size, e4h_size, List.length_cons, List.length_nil]); have q0 := dB_le v0 h0 l0; have q1 := dB_le v1 h1 l1; have q2 := e4k_le h0 l0 h1 l1 v0 v1; have q3 : (⟨#[96, 0, 0, 0]⟩ : ByteArray).size = 4 := rfl; have q4 : (⟨#[69, 0]⟩ : ByteArray).size = 2 := rfl; have q5 : (⟨#[0, 0, 0, 0]⟩ : ByteArray).size = 4 := rfl; have q6 : (⟨#[0, 0]⟩ : ByteArray).size = 2 := rfl; omega)) w) ?_
            refine hl_val (M.drop (.cons_cons _ (.cons _ (.slnil)))) 23 rfl (by decide) (by kernel_rfl) (by kernel_rfl) (want_no rfl) (some 38) rfl (.string ((((((⟨#[96, 0, 0, 0]⟩ : ByteArray) ++ (be2 (cv .u64 (s.size : Int)))) ++ (bs [p, t])) ++ (dB v0 h0 l0)) ++ (dB v1 h1 l1)) ++ s)) (fun w _ => (run_cat 9 9 _ _ rfl (((((⟨#[96, 0, 0, 0]⟩ : ByteArray) ++ (be2 (cv .u64 (s.size : Int)))) ++ (bs [p, t])) ++ (dB v0 h0 l0)) ++ (dB v1 h1 l1)) s (by kernel_rfl) (by kernel_rfl) (by (try simp only [ByteArray.size_append, be2_size, bs_size, e4h_size, List.length_cons, List.length_nil]); have q0 := dB_le v0 h0 l0; have q1 := dB_le v1 h1 l1; have q2 := e4k_le h0 l0 h1 l1 v0 v1; have q3 : (⟨#[96, 0, 0, 0]⟩ : ByteArray).size = 4 := rfl; have q4 : (⟨#[69, 0]⟩ : ByteArray).size = 2 := rfl; have q5 : (⟨#[0, 0, 0, 0]⟩ : ByteArray).size = 4 := rfl; have q6 : (⟨#[0, 0]⟩ : ByteArray).size = 2 := rfl; omega)) w) ?_
            refine hl_val (M.drop (.cons_cons _ (.cons _ (.slnil)))) 24 rfl (by decide) (by kernel_rfl) (by kernel_rfl) (want_no rfl) (some 2) rfl (.string ((((((⟨#[96, 0, 0, 0]⟩ : ByteArray) ++ (be2 (cv .u64 (s.size : Int)))) ++ (bs [p, t])) ++ (dB v0 h0 l0)) ++ (dB v1 h1 l1)) ++ s)) (fun _ _ => by kernel_rfl) ?_
            refine hl_end (by kernel_rfl) (by kernel_rfl) rfl ?_
            refine pl_val (want_no rfl) (some 3) rfl (.int .i64 0) (fun _ => by kernel_rfl) ?_
            refine pl_nil ?_
            refine au_then ?_
            refine au_then ?_
            refine wp_ret ?_
            refine au_then_ret ?_
            have e0 : (dE v0 h0 l0 v1 h1 l1 p t s) = ((((((⟨#[96, 0, 0, 0]⟩ : ByteArray) ++ (be2 (cv .u64 (s.size : Int)))) ++ (bs [p, t])) ++ (dB v0 h0 l0)) ++ (dB v1 h1 l1)) ++ s) := by unfold dE; rw [if_pos c0, if_pos c1]; rfl
            have e1 : (my v0 h0 l0 v1 h1 l1 (s.size : Int)) = 0 := c0
            exact bodyPost_ret (v := .tuple #[.string ((((((⟨#[96, 0, 0, 0]⟩ : ByteArray) ++ (be2 (cv .u64 (s.size : Int)))) ++ (bs [p, t])) ++ (dB v0 h0 l0)) ++ (dB v1 h1 l1)) ++ s), .int .i64 0]) (results_tmp2 Tryz.results11 _ _ _ _ (by kernel_rfl) (by kernel_rfl)) (by kernel_rfl) ⟨by simp only [e0, e1], below_grown M.old⟩
          · skip
            refine pl_call M (want_no rfl) (some 30) rfl 35 #[.agg (av 3 (ls [.bool (v0), .int .u64 h0, .int .u64 l0]))] (.string (dB v0 h0 l0)) (fun _ => by kernel_rfl) (fun w M => d_Bytes v0 h0 l0 w M.laid) ?_
            intro u6 M
            refine pl_nil ?_
            refine au_then ?_
            refine ⟨(M.drop (.cons_cons _ (.cons _ (.slnil)))), ?_⟩
            refine hl_two 11 19 (by decide) (by decide) (by kernel_rfl) rfl rfl ?_ ?_
            · skip
              refine pl_back M (want_no rfl) (some 26) rfl _ rfl 1 g2 2 2 (by kernel_rfl) _ rfl [p, t] 2 (sb_ls [p, t] _) rfl (by intro x hx; simp only [List.mem_cons, List.mem_nil_iff, or_false] at hx; rcases hx with rfl | rfl <;> assumption) ?_
              refine pl_nil ?_
              refine au_then ?_
              refine ⟨(M.drop (.cons_cons _ (.cons _ (.slnil)))), ?_⟩
              refine hl_val (M.drop (.cons_cons _ (.cons _ (.slnil)))) 12 rfl (by decide) (by kernel_rfl) (by kernel_rfl) (want_no rfl) (some 27) rfl (.string (((⟨#[96, 0, 0, 0]⟩ : ByteArray) ++ (be2 (cv .u64 (s.size : Int)))) ++ (bs [p, t]))) (fun w _ => (run_cat 9 9 _ _ rfl ((⟨#[96, 0, 0, 0]⟩ : ByteArray) ++ (be2 (cv .u64 (s.size : Int)))) (bs [p, t]) (by kernel_rfl) (by kernel_rfl) (by (try simp only [ByteArray.size_append, be2_size, bs_size, e4h_size, List.length_cons, List.length_nil]); have q0 := dB_le v0 h0 l0; have q1 := dB_le v1 h1 l1; have q2 := e4k_le h0 l0 h1 l1 v0 v1; have q3 : (⟨#[96, 0, 0, 0]⟩ : ByteArray).size = 4 := rfl; have q4 : (⟨#[69, 0]⟩ : ByteArray).size = 2 := rfl; have q5 : (⟨#[0, 0, 0, 0]⟩ : ByteArray).size = 4 := rfl; have q6 : (⟨#[0, 0]⟩ : ByteArray).size = 2 := rfl; omega)) w) ?_
              refine hl_val (M.drop (.cons_cons _ (.cons _ (.slnil)))) 16 rfl (by decide) (by kernel_rfl) (by kernel_rfl) (want_no rfl) (some 31) rfl (.string ((((⟨#[96, 0, 0, 0]⟩ : ByteArray) ++ (be2 (cv .u64 (s.size : Int)))) ++ (bs [p, t])) ++ (dB v0 h0 l0))) (fun w _ => (run_cat 9 9 _ _ rfl (((⟨#[96, 0, 0, 0]⟩ : ByteArray) ++ (be2 (cv .u64 (s.size : Int)))) ++ (bs [p, t])) (dB v0 h0 l0) (by kernel_rfl) (by kernel_rfl) (by (try simp only [ByteArray.size_append, be2_size, bs_size, e4h_size, List.length_cons, List.length_nil]); have q0 := dB_le v0 h0 l0; have q1 := dB_le v1 h1 l1; have q2 := e4k_le h0 l0 h1 l1 v0 v1; have q3 : (⟨#[96, 0, 0, 0]⟩ : ByteArray).size = 4 := rfl; have q4 : (⟨#[69, 0]⟩ : ByteArray).size = 2 := rfl; have q5 : (⟨#[0, 0, 0, 0]⟩ : ByteArray).size = 4 := rfl; have q6 : (⟨#[0, 0]⟩ : ByteArray).size = 2 := rfl; omega)) w) ?_
              refine hl_one 19 (by decide) (by kernel_rfl) rfl ?_
              refine pl_call M (want_no rfl) (some 34) rfl 35 #[.agg (av 3 (ls [.bool (v1), .int .u64 h1, .int .u64 l1]))] (.string (dB v1 h1 l1)) (fun _ => by kernel_rfl) (fun w M => d_Bytes v1 h1 l1 w M.laid) ?_
              intro u7 M
              refine pl_nil ?_
              refine au_then ?_
              refine ⟨(M.drop (.cons_cons _ (.cons _ (.slnil)))), ?_⟩
              refine hl_val (M.drop (.cons_cons _ (.cons _ (.slnil)))) 20 rfl (by decide) (by kernel_rfl) (by kernel_rfl) (want_no rfl) (some 35) rfl (.string (((((⟨#[96, 0, 0, 0]⟩ : ByteArray) ++ (be2 (cv .u64 (s.size : Int)))) ++ (bs [p, t])) ++ (dB v0 h0 l0)) ++ (dB v1 h1 l1))) (fun w _ => (run_cat 9 9 _ _ rfl ((((⟨#[96, 0, 0, 0]⟩ : ByteArray) ++ (be2 (cv .u64 (s.size : Int)))) ++ (bs [p, t])) ++ (dB v0 h0 l0)) (dB v1 h1 l1) (by kernel_rfl) (by kernel_rfl) (by (try simp only [ByteArray.size_append, be2_size, bs_size, e4h_size, List.length_cons, List.length_nil]); have q0 := dB_le v0 h0 l0; have q1 := dB_le v1 h1 l1; have q2 := e4k_le h0 l0 h1 l1 v0 v1; have q3 : (⟨#[96, 0, 0, 0]⟩ : ByteArray).size = 4 := rfl; have q4 : (⟨#[69, 0]⟩ : ByteArray).size = 2 := rfl; have q5 : (⟨#[0, 0, 0, 0]⟩ : ByteArray).size = 4 := rfl; have q6 : (⟨#[0, 0]⟩ : ByteArray).size = 2 := rfl; omega)) w) ?_
              refine hl_val (M.drop (.cons_cons _ (.cons _ (.slnil)))) 23 rfl (by decide) (by kernel_rfl) (by kernel_rfl) (want_no rfl) (some 38) rfl (.string ((((((⟨#[96, 0, 0, 0]⟩ : ByteArray) ++ (be2 (cv .u64 (s.size : Int)))) ++ (bs [p, t])) ++ (dB v0 h0 l0)) ++ (dB v1 h1 l1)) ++ s)) (fun w _ => (run_cat 9 9 _ _ rfl (((((⟨#[96, 0, 0, 0]⟩ : ByteArray) ++ (be2 (cv .u64 (s.size : Int)))) ++ (bs [p, t])) ++ (dB v0 h0 l0)) ++ (dB v1 h1 l1)) s (by kernel_rfl) (by kernel_rfl) (by (try simp only [ByteArray.size_append, be2_size, bs_size, e4h_size, List.length_cons, List.length_nil]); have q0 := dB_le v0 h0 l0; have q1 := dB_le v1 h1 l1; have q2 := e4k_le h0 l0 h1 l1 v0 v1; have q3 : (⟨#[96, 0, 0, 0]⟩ : ByteArray).size = 4 := rfl; have q4 : (⟨#[69, 0]⟩ : ByteArray).size = 2 := rfl; have q5 : (⟨#[0, 0, 0, 0]⟩ : ByteArray).size = 4 := rfl; have q6 : (⟨#[0, 0]⟩ : ByteArray).size = 2 := rfl; omega)) w) ?_
              refine hl_val (M.drop (.cons_cons _ (.cons _ (.slnil)))) 24 rfl (by decide) (by kernel_rfl) (by kernel_rfl) (want_no rfl) (some 2) rfl (.string ((((((⟨#[96, 0, 0, 0]⟩ : ByteArray) ++ (be2 (cv .u64 (s.size : Int)))) ++ (bs [p, t])) ++ (dB v0 h0 l0)) ++ (dB v1 h1 l1)) ++ s)) (fun _ _ => by kernel_rfl) ?_
              refine hl_end (by kernel_rfl) (by kernel_rfl) rfl ?_
              refine pl_val (want_no rfl) (some 3) rfl (.int .i64 0) (fun _ => by kernel_rfl) ?_
              refine pl_nil ?_
              refine au_then ?_
              refine au_then ?_
              refine wp_ret ?_
              refine au_then_ret ?_
              have e0 : (dE v0 h0 l0 v1 h1 l1 p t s) = ((((((⟨#[96, 0, 0, 0]⟩ : ByteArray) ++ (be2 (cv .u64 (s.size : Int)))) ++ (bs [p, t])) ++ (dB v0 h0 l0)) ++ (dB v1 h1 l1)) ++ s) := by unfold dE; rw [if_pos c0, if_pos c1]; rfl
              have e1 : (my v0 h0 l0 v1 h1 l1 (s.size : Int)) = 0 := c0
              exact bodyPost_ret (v := .tuple #[.string ((((((⟨#[96, 0, 0, 0]⟩ : ByteArray) ++ (be2 (cv .u64 (s.size : Int)))) ++ (bs [p, t])) ++ (dB v0 h0 l0)) ++ (dB v1 h1 l1)) ++ s), .int .i64 0]) (results_tmp2 Tryz.results11 _ _ _ _ (by kernel_rfl) (by kernel_rfl)) (by kernel_rfl) ⟨by simp only [e0, e1], below_grown M.old⟩
            · skip
              refine pl_call M (want_no rfl) (some 34) rfl 35 #[.agg (av 3 (ls [.bool (v1), .int .u64 h1, .int .u64 l1]))] (.string (dB v1 h1 l1)) (fun _ => by kernel_rfl) (fun w M => d_Bytes v1 h1 l1 w M.laid) ?_
              intro u7 M
              refine pl_nil ?_
              refine au_then ?_
              refine ⟨(M.drop (.cons_cons _ (.cons _ (.slnil)))), ?_⟩
              refine hl_one 11 (by decide) (by kernel_rfl) rfl ?_
              refine pl_back M (want_no rfl) (some 26) rfl _ rfl 1 g2 2 2 (by kernel_rfl) _ rfl [p, t] 2 (sb_ls [p, t] _) rfl (by intro x hx; simp only [List.mem_cons, List.mem_nil_iff, or_false] at hx; rcases hx with rfl | rfl <;> assumption) ?_
              refine pl_nil ?_
              refine au_then ?_
              refine ⟨(M.drop (.cons_cons _ (.cons _ (.slnil)))), ?_⟩
              refine hl_val (M.drop (.cons_cons _ (.cons _ (.slnil)))) 12 rfl (by decide) (by kernel_rfl) (by kernel_rfl) (want_no rfl) (some 27) rfl (.string (((⟨#[96, 0, 0, 0]⟩ : ByteArray) ++ (be2 (cv .u64 (s.size : Int)))) ++ (bs [p, t]))) (fun w _ => (run_cat 9 9 _ _ rfl ((⟨#[96, 0, 0, 0]⟩ : ByteArray) ++ (be2 (cv .u64 (s.size : Int)))) (bs [p, t]) (by kernel_rfl) (by kernel_rfl) (by (try simp only [ByteArray.size_append, be2_size, bs_size, e4h_size, List.length_cons, List.length_nil]); have q0 := dB_le v0 h0 l0; have q1 := dB_le v1 h1 l1; have q2 := e4k_le h0 l0 h1 l1 v0 v1; have q3 : (⟨#[96, 0, 0, 0]⟩ : ByteArray).size = 4 := rfl; have q4 : (⟨#[69, 0]⟩ : ByteArray).size = 2 := rfl; have q5 : (⟨#[0, 0, 0, 0]⟩ : ByteArray).size = 4 := rfl; have q6 : (⟨#[0, 0]⟩ : ByteArray).size = 2 := rfl; omega)) w) ?_
              refine hl_val (M.drop (.cons_cons _ (.cons _ (.slnil)))) 16 rfl (by decide) (by kernel_rfl) (by kernel_rfl) (want_no rfl) (some 31) rfl (.string ((((⟨#[96, 0, 0, 0]⟩ : ByteArray) ++ (be2 (cv .u64 (s.size : Int)))) ++ (bs [p, t])) ++ (dB v0 h0 l0))) (fun w _ => (run_cat 9 9 _ _ rfl (((⟨#[96, 0, 0, 0]⟩ : ByteArray) ++ (be2 (cv .u64 (s.size : Int)))) ++ (bs [p, t])) (dB v0 h0 l0) (by kernel_rfl) (by kernel_rfl) (by (try simp only [ByteArray.size_append, be2_size, bs_size, e4h_size, List.length_cons, List.length_nil]); have q0 := dB_le v0 h0 l0; have q1 := dB_le v1 h1 l1; have q2 := e4k_le h0 l0 h1 l1 v0 v1; have q3 : (⟨#[96, 0, 0, 0]⟩ : ByteArray).size = 4 := rfl; have q4 : (⟨#[69, 0]⟩ : ByteArray).size = 2 := rfl; have q5 : (⟨#[0, 0, 0, 0]⟩ : ByteArray).size = 4 := rfl; have q6 : (⟨#[0, 0]⟩ : ByteArray).size = 2 := rfl; omega)) w) ?_
              refine hl_val (M.drop (.cons_cons _ (.cons _ (.slnil)))) 20 rfl (by decide) (by kernel_rfl) (by kernel_rfl) (want_no rfl) (some 35) rfl (.string (((((⟨#[96, 0, 0, 0]⟩ : ByteArray) ++ (be2 (cv .u64 (s.size : Int)))) ++ (bs [p, t])) ++ (dB v0 h0 l0)) ++ (dB v1 h1 l1))) (fun w _ => (run_cat 9 9 _ _ rfl ((((⟨#[96, 0, 0, 0]⟩ : ByteArray) ++ (be2 (cv .u64 (s.size : Int)))) ++ (bs [p, t])) ++ (dB v0 h0 l0)) (dB v1 h1 l1) (by kernel_rfl) (by kernel_rfl) (by (try simp only [ByteArray.size_append, be2_size, bs_size, e4h_size, List.length_cons, List.length_nil]); have q0 := dB_le v0 h0 l0; have q1 := dB_le v1 h1 l1; have q2 := e4k_le h0 l0 h1 l1 v0 v1; have q3 : (⟨#[96, 0, 0, 0]⟩ : ByteArray).size = 4 := rfl; have q4 : (⟨#[69, 0]⟩ : ByteArray).size = 2 := rfl; have q5 : (⟨#[0, 0, 0, 0]⟩ : ByteArray).size = 4 := rfl; have q6 : (⟨#[0, 0]⟩ : ByteArray).size = 2 := rfl; omega)) w) ?_
              refine hl_val (M.drop (.cons_cons _ (.cons _ (.slnil)))) 23 rfl (by decide) (by kernel_rfl) (by kernel_rfl) (want_no rfl) (some 38) rfl (.string ((((((⟨#[96, 0, 0, 0]⟩ : ByteArray) ++ (be2 (cv .u64 (s.size : Int)))) ++ (bs [p, t])) ++ (dB v0 h0 l0)) ++ (dB v1 h1 l1)) ++ s)) (fun w _ => (run_cat 9 9 _ _ rfl (((((⟨#[96, 0, 0, 0]⟩ : ByteArray) ++ (be2 (cv .u64 (s.size : Int)))) ++ (bs [p, t])) ++ (dB v0 h0 l0)) ++ (dB v1 h1 l1)) s (by kernel_rfl) (by kernel_rfl) (by (try simp only [ByteArray.size_append, be2_size, bs_size, e4h_size, List.length_cons, List.length_nil]); have q0 := dB_le v0 h0 l0; have q1 := dB_le v1 h1 l1; have q2 := e4k_le h0 l0 h1 l1 v0 v1; have q3 : (⟨#[96, 0, 0, 0]⟩ : ByteArray).size = 4 := rfl; have q4 : (⟨#[69, 0]⟩ : ByteArray).size = 2 := rfl; have q5 : (⟨#[0, 0, 0, 0]⟩ : ByteArray).size = 4 := rfl; have q6 : (⟨#[0, 0]⟩ : ByteArray).size = 2 := rfl; omega)) w) ?_
              refine hl_val (M.drop (.cons_cons _ (.cons _ (.slnil)))) 24 rfl (by decide) (by kernel_rfl) (by kernel_rfl) (want_no rfl) (some 2) rfl (.string ((((((⟨#[96, 0, 0, 0]⟩ : ByteArray) ++ (be2 (cv .u64 (s.size : Int)))) ++ (bs [p, t])) ++ (dB v0 h0 l0)) ++ (dB v1 h1 l1)) ++ s)) (fun _ _ => by kernel_rfl) ?_
              refine hl_end (by kernel_rfl) (by kernel_rfl) rfl ?_
              refine pl_val (want_no rfl) (some 3) rfl (.int .i64 0) (fun _ => by kernel_rfl) ?_
              refine pl_nil ?_
              refine au_then ?_
              refine au_then ?_
              refine wp_ret ?_
              refine au_then_ret ?_
              have e0 : (dE v0 h0 l0 v1 h1 l1 p t s) = ((((((⟨#[96, 0, 0, 0]⟩ : ByteArray) ++ (be2 (cv .u64 (s.size : Int)))) ++ (bs [p, t])) ++ (dB v0 h0 l0)) ++ (dB v1 h1 l1)) ++ s) := by unfold dE; rw [if_pos c0, if_pos c1]; rfl
              have e1 : (my v0 h0 l0 v1 h1 l1 (s.size : Int)) = 0 := c0
              exact bodyPost_ret (v := .tuple #[.string ((((((⟨#[96, 0, 0, 0]⟩ : ByteArray) ++ (be2 (cv .u64 (s.size : Int)))) ++ (bs [p, t])) ++ (dB v0 h0 l0)) ++ (dB v1 h1 l1)) ++ s), .int .i64 0]) (results_tmp2 Tryz.results11 _ _ _ _ (by kernel_rfl) (by kernel_rfl)) (by kernel_rfl) ⟨by simp only [e0, e1], below_grown M.old⟩
        · skip
          refine pl_back M (want_no rfl) (some 26) rfl _ rfl 1 g2 2 2 (by kernel_rfl) _ rfl [p, t] 2 (sb_ls [p, t] _) rfl (by intro x hx; simp only [List.mem_cons, List.mem_nil_iff, or_false] at hx; rcases hx with rfl | rfl <;> assumption) ?_
          refine pl_nil ?_
          refine au_then ?_
          refine ⟨(M.drop (.cons_cons _ (.cons _ (.slnil)))), ?_⟩
          refine hl_one 4 (by decide) (by kernel_rfl) rfl ?_
          refine pl_call M (want_no rfl) (some 19) rfl 34 #[.int .u64 (cv .u64 (s.size : Int)), .int .i64 2] (.string (be2 (cv .u64 (s.size : Int)))) (fun _ => by kernel_rfl) (fun w M => c_num2 (cv .u64 (s.size : Int)) w M.laid) ?_
          intro u5 M
          refine pl_nil ?_
          refine au_then ?_
          refine ⟨(M.drop (.cons_cons _ (.cons _ (.slnil)))), ?_⟩
          refine hl_val (M.drop (.cons_cons _ (.cons _ (.slnil)))) 5 rfl (by decide) (by kernel_rfl) (by kernel_rfl) (want_no rfl) (some 20) rfl (.string ((⟨#[96, 0, 0, 0]⟩ : ByteArray) ++ (be2 (cv .u64 (s.size : Int))))) (fun w _ => (run_cat 9 9 _ _ rfl ⟨#[96, 0, 0, 0]⟩ (be2 (cv .u64 (s.size : Int))) (by kernel_rfl) (by kernel_rfl) (by (try simp only [ByteArray.size_append, be2_size, bs_size, e4h_size, List.length_cons, List.length_nil]); have q0 := dB_le v0 h0 l0; have q1 := dB_le v1 h1 l1; have q2 := e4k_le h0 l0 h1 l1 v0 v1; have q3 : (⟨#[96, 0, 0, 0]⟩ : ByteArray).size = 4 := rfl; have q4 : (⟨#[69, 0]⟩ : ByteArray).size = 2 := rfl; have q5 : (⟨#[0, 0, 0, 0]⟩ : ByteArray).size = 4 := rfl; have q6 : (⟨#[0, 0]⟩ : ByteArray).size = 2 := rfl; omega)) w) ?_
          refine hl_val (M.drop (.cons_cons _ (.cons _ (.slnil)))) 12 rfl (by decide) (by kernel_rfl) (by kernel_rfl) (want_no rfl) (some 27) rfl (.string (((⟨#[96, 0, 0, 0]⟩ : ByteArray) ++ (be2 (cv .u64 (s.size : Int)))) ++ (bs [p, t]))) (fun w _ => (run_cat 9 9 _ _ rfl ((⟨#[96, 0, 0, 0]⟩ : ByteArray) ++ (be2 (cv .u64 (s.size : Int)))) (bs [p, t]) (by kernel_rfl) (by kernel_rfl) (by (try simp only [ByteArray.size_append, be2_size, bs_size, e4h_size, List.length_cons, List.length_nil]); have q0 := dB_le v0 h0 l0; have q1 := dB_le v1 h1 l1; have q2 := e4k_le h0 l0 h1 l1 v0 v1; have q3 : (⟨#[96, 0, 0, 0]⟩ : ByteArray).size = 4 := rfl; have q4 : (⟨#[69, 0]⟩ : ByteArray).size = 2 := rfl; have q5 : (⟨#[0, 0, 0, 0]⟩ : ByteArray).size = 4 := rfl; have q6 : (⟨#[0, 0]⟩ : ByteArray).size = 2 := rfl; omega)) w) ?_
          refine hl_one 15 (by decide) (by kernel_rfl) rfl ?_
          refine pl_call M (want_no rfl) (some 30) rfl 35 #[.agg (av 3 (ls [.bool (v0), .int .u64 h0, .int .u64 l0]))] (.string (dB v0 h0 l0)) (fun _ => by kernel_rfl) (fun w M => d_Bytes v0 h0 l0 w M.laid) ?_
          intro u6 M
          refine pl_nil ?_
          refine au_then ?_
          refine ⟨(M.drop (.cons_cons _ (.cons _ (.slnil)))), ?_⟩
          refine hl_val (M.drop (.cons_cons _ (.cons _ (.slnil)))) 16 rfl (by decide) (by kernel_rfl) (by kernel_rfl) (want_no rfl) (some 31) rfl (.string ((((⟨#[96, 0, 0, 0]⟩ : ByteArray) ++ (be2 (cv .u64 (s.size : Int)))) ++ (bs [p, t])) ++ (dB v0 h0 l0))) (fun w _ => (run_cat 9 9 _ _ rfl (((⟨#[96, 0, 0, 0]⟩ : ByteArray) ++ (be2 (cv .u64 (s.size : Int)))) ++ (bs [p, t])) (dB v0 h0 l0) (by kernel_rfl) (by kernel_rfl) (by (try simp only [ByteArray.size_append, be2_size, bs_size, e4h_size, List.length_cons, List.length_nil]); have q0 := dB_le v0 h0 l0; have q1 := dB_le v1 h1 l1; have q2 := e4k_le h0 l0 h1 l1 v0 v1; have q3 : (⟨#[96, 0, 0, 0]⟩ : ByteArray).size = 4 := rfl; have q4 : (⟨#[69, 0]⟩ : ByteArray).size = 2 := rfl; have q5 : (⟨#[0, 0, 0, 0]⟩ : ByteArray).size = 4 := rfl; have q6 : (⟨#[0, 0]⟩ : ByteArray).size = 2 := rfl; omega)) w) ?_
          refine hl_one 19 (by decide) (by kernel_rfl) rfl ?_
          refine pl_call M (want_no rfl) (some 34) rfl 35 #[.agg (av 3 (ls [.bool (v1), .int .u64 h1, .int .u64 l1]))] (.string (dB v1 h1 l1)) (fun _ => by kernel_rfl) (fun w M => d_Bytes v1 h1 l1 w M.laid) ?_
          intro u7 M
          refine pl_nil ?_
          refine au_then ?_
          refine ⟨(M.drop (.cons_cons _ (.cons _ (.slnil)))), ?_⟩
          refine hl_val (M.drop (.cons_cons _ (.cons _ (.slnil)))) 20 rfl (by decide) (by kernel_rfl) (by kernel_rfl) (want_no rfl) (some 35) rfl (.string (((((⟨#[96, 0, 0, 0]⟩ : ByteArray) ++ (be2 (cv .u64 (s.size : Int)))) ++ (bs [p, t])) ++ (dB v0 h0 l0)) ++ (dB v1 h1 l1))) (fun w _ => (run_cat 9 9 _ _ rfl ((((⟨#[96, 0, 0, 0]⟩ : ByteArray) ++ (be2 (cv .u64 (s.size : Int)))) ++ (bs [p, t])) ++ (dB v0 h0 l0)) (dB v1 h1 l1) (by kernel_rfl) (by kernel_rfl) (by (try simp only [ByteArray.size_append, be2_size, bs_size, e4h_size, List.length_cons, List.length_nil]); have q0 := dB_le v0 h0 l0; have q1 := dB_le v1 h1 l1; have q2 := e4k_le h0 l0 h1 l1 v0 v1; have q3 : (⟨#[96, 0, 0, 0]⟩ : ByteArray).size = 4 := rfl; have q4 : (⟨#[69, 0]⟩ : ByteArray).size = 2 := rfl; have q5 : (⟨#[0, 0, 0, 0]⟩ : ByteArray).size = 4 := rfl; have q6 : (⟨#[0, 0]⟩ : ByteArray).size = 2 := rfl; omega)) w) ?_
          refine hl_val (M.drop (.cons_cons _ (.cons _ (.slnil)))) 23 rfl (by decide) (by kernel_rfl) (by kernel_rfl) (want_no rfl) (some 38) rfl (.string ((((((⟨#[96, 0, 0, 0]⟩ : ByteArray) ++ (be2 (cv .u64 (s.size : Int)))) ++ (bs [p, t])) ++ (dB v0 h0 l0)) ++ (dB v1 h1 l1)) ++ s)) (fun w _ => (run_cat 9 9 _ _ rfl (((((⟨#[96, 0, 0, 0]⟩ : ByteArray) ++ (be2 (cv .u64 (s.size : Int)))) ++ (bs [p, t])) ++ (dB v0 h0 l0)) ++ (dB v1 h1 l1)) s (by kernel_rfl) (by kernel_rfl) (by (try simp only [ByteArray.size_append, be2_size, bs_size, e4h_size, List.length_cons, List.length_nil]); have q0 := dB_le v0 h0 l0; have q1 := dB_le v1 h1 l1; have q2 := e4k_le h0 l0 h1 l1 v0 v1; have q3 : (⟨#[96, 0, 0, 0]⟩ : ByteArray).size = 4 := rfl; have q4 : (⟨#[69, 0]⟩ : ByteArray).size = 2 := rfl; have q5 : (⟨#[0, 0, 0, 0]⟩ : ByteArray).size = 4 := rfl; have q6 : (⟨#[0, 0]⟩ : ByteArray).size = 2 := rfl; omega)) w) ?_
          refine hl_val (M.drop (.cons_cons _ (.cons _ (.slnil)))) 24 rfl (by decide) (by kernel_rfl) (by kernel_rfl) (want_no rfl) (some 2) rfl (.string ((((((⟨#[96, 0, 0, 0]⟩ : ByteArray) ++ (be2 (cv .u64 (s.size : Int)))) ++ (bs [p, t])) ++ (dB v0 h0 l0)) ++ (dB v1 h1 l1)) ++ s)) (fun _ _ => by kernel_rfl) ?_
          refine hl_end (by kernel_rfl) (by kernel_rfl) rfl ?_
          refine pl_val (want_no rfl) (some 3) rfl (.int .i64 0) (fun _ => by kernel_rfl) ?_
          refine pl_nil ?_
          refine au_then ?_
          refine au_then ?_
          refine wp_ret ?_
          refine au_then_ret ?_
          have e0 : (dE v0 h0 l0 v1 h1 l1 p t s) = ((((((⟨#[96, 0, 0, 0]⟩ : ByteArray) ++ (be2 (cv .u64 (s.size : Int)))) ++ (bs [p, t])) ++ (dB v0 h0 l0)) ++ (dB v1 h1 l1)) ++ s) := by unfold dE; rw [if_pos c0, if_pos c1]; rfl
          have e1 : (my v0 h0 l0 v1 h1 l1 (s.size : Int)) = 0 := c0
          exact bodyPost_ret (v := .tuple #[.string ((((((⟨#[96, 0, 0, 0]⟩ : ByteArray) ++ (be2 (cv .u64 (s.size : Int)))) ++ (bs [p, t])) ++ (dB v0 h0 l0)) ++ (dB v1 h1 l1)) ++ s), .int .i64 0]) (results_tmp2 Tryz.results11 _ _ _ _ (by kernel_rfl) (by kernel_rfl)) (by kernel_rfl) ⟨by simp only [e0, e1], below_grown M.old⟩
    · skip
      refine pl_cell M (want_no rfl) (some 14) rfl 4 _ rfl g1 0 (by kernel_rfl) (.bool false) (fun _ => by kernel_rfl) (fun w M => M.cell 0 rfl (by decide) (congrArg Value.bool c1)) ?_
      refine pl_nil ?_
      refine au_then ?_
      refine wp_cond_false (by kernel_rfl) ?_
      refine wp_skip ?_
      refine au_then ?_
      refine wp_seq ?_
      refine rg_held M [⟨g1, .cells (av 9 (ls [.bool (v0), .int .u64 h0, .int .u64 l0, .bool (v1), .int .u64 h1, .int .u64 l1, .int .u8 p, .int .u8 t, .string s])) 26⟩] 15 rfl (by kernel_rfl) (by kernel_rfl) (fun _ _ d _ _ h => by cases d <;> exact h) ?_
      intro u3 M
      replace M : Mem ⟨w, []⟩ [⟨g1, .cells (av 9 (ls [.bool (v0), .int .u64 h0, .int .u64 l0, .bool (v1), .int .u64 h1, .int .u64 l1, .int .u8 p, .int .u8 t, .string s])) 26⟩] u3 := M
      refine hl_val M 0 rfl (by decide) (by kernel_rfl) (by kernel_rfl) (want_no rfl) (some 39) rfl (.pointer (some ⟨g1, 8, none⟩)) (fun _ _ => by kernel_rfl) ?_
      refine hl_cell M 1 rfl (by decide) (by kernel_rfl) (by kernel_rfl) (want_no rfl) (some 40) rfl 9 _ rfl g1 8 (by kernel_rfl) (.string s) (fun _ => by kernel_rfl) (fun w M => M.cell 0 rfl (by decide) rfl) ?_
      refine hl_val M 2 rfl (by decide) (by kernel_rfl) (by kernel_rfl) (want_no rfl) (some 41) rfl (.int .i64 (s.size : Int)) (fun _ _ => by kernel_rfl) ?_
      refine hl_val M 3 rfl (by decide) (by kernel_rfl) (by kernel_rfl) (want_no rfl) (some 42) rfl (.int .i64 (20 + (s.size : Int))) (fun w _ => (fun w => Eq.trans (b := .ok (.value (.int .i64 (IntKind.wrap .i64 (20 + (s.size : Int))))) w) (by kernel_rfl) (by rw [wrap64 (by omega) (by omega)])) w) ?_
      refine hl_val M 4 rfl (by decide) (by kernel_rfl) (by kernel_rfl) (want_no rfl) (some 43) rfl (.int .u64 (cv .u64 (20 + (s.size : Int)))) (fun _ _ => by kernel_rfl) ?_
      refine hl_val M 8 rfl (by decide) (by kernel_rfl) (by kernel_rfl) (want_no rfl) (some 47) rfl (.pointer (some ⟨g1, 7, none⟩)) (fun _ _ => by kernel_rfl) ?_
      refine hl_cell M 9 rfl (by decide) (by kernel_rfl) (by kernel_rfl) (want_no rfl) (some 48) rfl 5 _ rfl g1 7 (by kernel_rfl) (.int .u8 t) (fun _ => by kernel_rfl) (fun w M => M.cell 0 rfl (by decide) rfl) ?_
      refine hl_val M 10 rfl (by decide) (by kernel_rfl) (by kernel_rfl) (want_no rfl) (some 49) rfl (.pointer (some ⟨g1, 6, none⟩)) (fun _ _ => by kernel_rfl) ?_
      refine hl_cell M 11 rfl (by decide) (by kernel_rfl) (by kernel_rfl) (want_no rfl) (some 50) rfl 5 _ rfl g1 6 (by kernel_rfl) (.int .u8 p) (fun _ => by kernel_rfl) (fun w M => M.cell 0 rfl (by decide) rfl) ?_
      refine hl_two 5 12 (by decide) (by decide) (by kernel_rfl) rfl rfl ?_ ?_
      · skip
        refine pl_call M (want_no rfl) (some 44) rfl 34 #[.int .u64 (cv .u64 (20 + (s.size : Int))), .int .i64 2] (.string (be2 (cv .u64 (20 + (s.size : Int))))) (fun _ => by kernel_rfl) (fun w M => c_num2 (cv .u64 (20 + (s.size : Int))) w M.laid) ?_
        intro u4 M
        refine pl_nil ?_
        refine au_then ?_
        refine ⟨M, ?_⟩
        refine hl_val M 6 rfl (by decide) (by kernel_rfl) (by kernel_rfl) (want_no rfl) (some 45) rfl (.string ((⟨#[69, 0]⟩ : ByteArray) ++ (be2 (cv .u64 (20 + (s.size : Int)))))) (fun w _ => (run_cat 9 9 _ _ rfl ⟨#[69, 0]⟩ (be2 (cv .u64 (20 + (s.size : Int)))) (by kernel_rfl) (by kernel_rfl) (by (try simp only [ByteArray.size_append, be2_size, bs_size, e4h_size, List.length_cons, List.length_nil]); have q0 := dB_le v0 h0 l0; have q1 := dB_le v1 h1 l1; have q2 := e4k_le h0 l0 h1 l1 v0 v1; have q3 : (⟨#[96, 0, 0, 0]⟩ : ByteArray).size = 4 := rfl; have q4 : (⟨#[69, 0]⟩ : ByteArray).size = 2 := rfl; have q5 : (⟨#[0, 0, 0, 0]⟩ : ByteArray).size = 4 := rfl; have q6 : (⟨#[0, 0]⟩ : ByteArray).size = 2 := rfl; omega)) w) ?_
        refine hl_val M 7 rfl (by decide) (by kernel_rfl) (by kernel_rfl) (want_no rfl) (some 46) rfl (.string (((⟨#[69, 0]⟩ : ByteArray) ++ (be2 (cv .u64 (20 + (s.size : Int))))) ++ (⟨#[0, 0, 0, 0]⟩ : ByteArray))) (fun w _ => (run_cat 9 9 _ _ rfl ((⟨#[69, 0]⟩ : ByteArray) ++ (be2 (cv .u64 (20 + (s.size : Int))))) ⟨#[0, 0, 0, 0]⟩ (by kernel_rfl) (by kernel_rfl) (by (try simp only [ByteArray.size_append, be2_size, bs_size, e4h_size, List.length_cons, List.length_nil]); have q0 := dB_le v0 h0 l0; have q1 := dB_le v1 h1 l1; have q2 := e4k_le h0 l0 h1 l1 v0 v1; have q3 : (⟨#[96, 0, 0, 0]⟩ : ByteArray).size = 4 := rfl; have q4 : (⟨#[69, 0]⟩ : ByteArray).size = 2 := rfl; have q5 : (⟨#[0, 0, 0, 0]⟩ : ByteArray).size = 4 := rfl; have q6 : (⟨#[0, 0]⟩ : ByteArray).size = 2 := rfl; omega)) w) ?_
        refine hl_one 12 (by decide) (by kernel_rfl) rfl ?_
        refine pl_mk M (want_no rfl) (some 51) rfl (fun g2 => .slice (some ⟨g2, 0, none⟩) 2 2) (.cells (av 2 (ls [.int .u8 t, .int .u8 p])) 5) (fun _ => by kernel_rfl) ?_
        intro g2 u5 M
        replace M : Mem ⟨w, []⟩ [⟨g1, .cells (av 9 (ls [.bool (v0), .int .u64 h0, .int .u64 l0, .bool (v1), .int .u64 h1, .int .u64 l1, .int .u8 p, .int .u8 t, .string s])) 26⟩, ⟨g2, .cells (av 2 (ls [.int .u8 t, .int .u8 p])) 5⟩] u5 := M
        refine pl_nil ?_
        refine au_then ?_
        refine ⟨(M.drop (.cons_cons _ (.cons _ (.slnil)))), ?_⟩
        refine hl_one 13 (by decide) (by kernel_rfl) rfl ?_
        refine pl_back M (want_no rfl) (some 52) rfl _ rfl 1 g2 2 2 (by kernel_rfl) _ rfl [t, p] 2 (sb_ls [t, p] _) rfl (by intro x hx; simp only [List.mem_cons, List.mem_nil_iff, or_false] at hx; rcases hx with rfl | rfl <;> assumption) ?_
        refine pl_nil ?_
        refine au_then ?_
        refine ⟨(M.drop (.cons_cons _ (.cons _ (.slnil)))), ?_⟩
        refine hl_val (M.drop (.cons_cons _ (.cons _ (.slnil)))) 14 rfl (by decide) (by kernel_rfl) (by kernel_rfl) (want_no rfl) (some 53) rfl (.string ((((⟨#[69, 0]⟩ : ByteArray) ++ (be2 (cv .u64 (20 + (s.size : Int))))) ++ (⟨#[0, 0, 0, 0]⟩ : ByteArray)) ++ (bs [t, p]))) (fun w _ => (run_cat 9 9 _ _ rfl (((⟨#[69, 0]⟩ : ByteArray) ++ (be2 (cv .u64 (20 + (s.size : Int))))) ++ (⟨#[0, 0, 0, 0]⟩ : ByteArray)) (bs [t, p]) (by kernel_rfl) (by kernel_rfl) (by (try simp only [ByteArray.size_append, be2_size, bs_size, e4h_size, List.length_cons, List.length_nil]); have q0 := dB_le v0 h0 l0; have q1 := dB_le v1 h1 l1; have q2 := e4k_le h0 l0 h1 l1 v0 v1; have q3 : (⟨#[96, 0, 0, 0]⟩ : ByteArray).size = 4 := rfl; have q4 : (⟨#[69, 0]⟩ : ByteArray).size = 2 := rfl; have q5 : (⟨#[0, 0, 0, 0]⟩ : ByteArray).size = 4 := rfl; have q6 : (⟨#[0, 0]⟩ : ByteArray).size = 2 := rfl; omega)) w) ?_
        refine hl_end (by kernel_rfl) (by kernel_rfl) rfl ?_
        refine pl_val (want_no rfl) (some 5) rfl (.string ((((⟨#[69, 0]⟩ : ByteArray) ++ (be2 (cv .u64 (20 + (s.size : Int))))) ++ (⟨#[0, 0, 0, 0]⟩ : ByteArray)) ++ (bs [t, p]))) (fun _ => by kernel_rfl) ?_
        refine pl_nil ?_
        refine au_then ?_
        refine au_then ?_
        refine wp_seq ?_
        refine rg_tail M 7 (by kernel_rfl) (by kernel_rfl) ?_
        simp only [List.take_succ_cons, List.take_zero]
        refine k_val (want_no rfl) (some 54) rfl (.pointer (some ⟨g1, 0, none⟩)) (fun _ => by kernel_rfl) ?_
        refine k_load M (want_no rfl) (some 55) rfl 24 _ rfl 0 g1 0 (by kernel_rfl) 9 26 (ls [.bool (v0), .int .u64 h0, .int .u64 l0, .bool (v1), .int .u64 h1, .int .u64 l1, .int .u8 p, .int .u8 t, .string s]) rfl 3 (ls [.bool (v0), .int .u64 h0, .int .u64 l0]) (part_ls _ 0 3 _ rfl) (by decide) _ Tryz.underlying24 rfl inz24 ?_
        refine k_call M (want_no rfl) (some 56) rfl 35 #[.agg (av 3 (ls [.bool (v0), .int .u64 h0, .int .u64 l0]))] (.string (dB v0 h0 l0)) (fun _ => by kernel_rfl) (fun w M => d_Bytes v0 h0 l0 w M.laid) ?_
        refine k_val (want_no rfl) (some 57) rfl (.pointer (some ⟨g1, 3, none⟩)) (fun _ => by kernel_rfl) ?_
        refine k_load M (want_no rfl) (some 58) rfl 24 _ rfl 0 g1 3 (by kernel_rfl) 9 26 (ls [.bool (v0), .int .u64 h0, .int .u64 l0, .bool (v1), .int .u64 h1, .int .u64 l1, .int .u8 p, .int .u8 t, .string s]) rfl 3 (ls [.bool (v1), .int .u64 h1, .int .u64 l1]) (part_ls _ 3 3 _ rfl) (by decide) _ Tryz.underlying24 rfl inz24 ?_
        refine k_call M (want_no rfl) (some 59) rfl 35 #[.agg (av 3 (ls [.bool (v1), .int .u64 h1, .int .u64 l1]))] (.string (dB v1 h1 l1)) (fun _ => by kernel_rfl) (fun w M => d_Bytes v1 h1 l1 w M.laid) ?_
        refine k_val (want_no rfl) (some 60) rfl (.string ((dB v0 h0 l0) ++ (dB v1 h1 l1))) (run_cat 9 9 _ _ rfl (dB v0 h0 l0) (dB v1 h1 l1) (by kernel_rfl) (by kernel_rfl) (by (try simp only [ByteArray.size_append, be2_size, bs_size, e4h_size, List.length_cons, List.length_nil]); have q0 := dB_le v0 h0 l0; have q1 := dB_le v1 h1 l1; have q2 := e4k_le h0 l0 h1 l1 v0 v1; have q3 : (⟨#[96, 0, 0, 0]⟩ : ByteArray).size = 4 := rfl; have q4 : (⟨#[69, 0]⟩ : ByteArray).size = 2 := rfl; have q5 : (⟨#[0, 0, 0, 0]⟩ : ByteArray).size = 4 := rfl; have q6 : (⟨#[0, 0]⟩ : ByteArray).size = 2 := rfl; omega)) ?_
        refine kl_nil ?_
        intro u6 M
        replace M : Mem ⟨w, []⟩ [⟨g1, .cells (av 9 (ls [.bool (v0), .int .u64 h0, .int .u64 l0, .bool (v1), .int .u64 h1, .int .u64 l1, .int .u8 p, .int .u8 t, .string s])) 26⟩, ⟨g2, .cells (av 2 (ls [.int .u8 t, .int .u8 p])) 5⟩] u6 := M
        refine pl_val (want_no rfl) (some 6) rfl (.string ((dB v0 h0 l0) ++ (dB v1 h1 l1))) (fun _ => by kernel_rfl) ?_
        refine pl_nil ?_
        refine au_then ?_
        refine wp_seq ?_
        refine rg_tail M 15 (by kernel_rfl) (by kernel_rfl) ?_
        simp only [List.take_succ_cons, List.take_zero]
        refine k_val (want_no rfl) (some 61) rfl (.string (e4h t p s.size)) (fun _ => by kernel_rfl) ?_
        refine k_val (want_no rfl) (some 62) rfl (.string (e4h t p s.size)) (fun _ => by kernel_rfl) ?_
        refine k_val (want_no rfl) (some 63) rfl (.string ((e4h t p s.size) ++ (⟨#[0, 0]⟩ : ByteArray))) (run_cat 9 9 _ _ rfl (e4h t p s.size) ⟨#[0, 0]⟩ (by kernel_rfl) (by kernel_rfl) (by (try simp only [ByteArray.size_append, be2_size, bs_size, e4h_size, List.length_cons, List.length_nil]); have q0 := dB_le v0 h0 l0; have q1 := dB_le v1 h1 l1; have q2 := e4k_le h0 l0 h1 l1 v0 v1; have q3 : (⟨#[96, 0, 0, 0]⟩ : ByteArray).size = 4 := rfl; have q4 : (⟨#[69, 0]⟩ : ByteArray).size = 2 := rfl; have q5 : (⟨#[0, 0, 0, 0]⟩ : ByteArray).size = 4 := rfl; have q6 : (⟨#[0, 0]⟩ : ByteArray).size = 2 := rfl; omega)) ?_
        refine k_val (want_no rfl) (some 64) rfl (.string (e4k h0 l0 h1 l1 v0 v1)) (fun _ => by kernel_rfl) ?_
        refine k_val (want_no rfl) (some 65) rfl (.string (((e4h t p s.size) ++ (⟨#[0, 0]⟩ : ByteArray)) ++ (e4k h0 l0 h1 l1 v0 v1))) (run_cat 9 9 _ _ rfl ((e4h t p s.size) ++ (⟨#[0, 0]⟩ : ByteArray)) (e4k h0 l0 h1 l1 v0 v1) (by kernel_rfl) (by kernel_rfl) (by (try simp only [ByteArray.size_append, be2_size, bs_size, e4h_size, List.length_cons, List.length_nil]); have q0 := dB_le v0 h0 l0; have q1 := dB_le v1 h1 l1; have q2 := e4k_le h0 l0 h1 l1 v0 v1; have q3 : (⟨#[96, 0, 0, 0]⟩ : ByteArray).size = 4 := rfl; have q4 : (⟨#[69, 0]⟩ : ByteArray).size = 2 := rfl; have q5 : (⟨#[0, 0, 0, 0]⟩ : ByteArray).size = 4 := rfl; have q6 : (⟨#[0, 0]⟩ : ByteArray).size = 2 := rfl; omega)) ?_
        refine k_call M (want_no rfl) (some 66) rfl 15 #[.string (((e4h t p s.size) ++ (⟨#[0, 0]⟩ : ByteArray)) ++ (e4k h0 l0 h1 l1 v0 v1))] (.int .u16 (sumS (((e4h t p s.size) ++ (⟨#[0, 0]⟩ : ByteArray)) ++ (e4k h0 l0 h1 l1 v0 v1)))) (fun _ => by kernel_rfl) (fun w M => d_Sum (((e4h t p s.size) ++ (⟨#[0, 0]⟩ : ByteArray)) ++ (e4k h0 l0 h1 l1 v0 v1)) (by (try simp only [ByteArray.size_append, be2_size, bs_size, e4h_size, List.length_cons, List.length_nil]); have q0 := dB_le v0 h0 l0; have q1 := dB_le v1 h1 l1; have q2 := e4k_le h0 l0 h1 l1 v0 v1; have q3 : (⟨#[96, 0, 0, 0]⟩ : ByteArray).size = 4 := rfl; have q4 : (⟨#[69, 0]⟩ : ByteArray).size = 2 := rfl; have q5 : (⟨#[0, 0, 0, 0]⟩ : ByteArray).size = 4 := rfl; have q6 : (⟨#[0, 0]⟩ : ByteArray).size = 2 := rfl; omega) w M.laid) ?_
        refine k_val (want_no rfl) (some 67) rfl (.int .u64 (cv .u64 (sumS (((e4h t p s.size) ++ (⟨#[0, 0]⟩ : ByteArray)) ++ (e4k h0 l0 h1 l1 v0 v1))))) (fun _ => by kernel_rfl) ?_
        refine k_call M (want_no rfl) (some 68) rfl 34 #[.int .u64 (cv .u64 (sumS (((e4h t p s.size) ++ (⟨#[0, 0]⟩ : ByteArray)) ++ (e4k h0 l0 h1 l1 v0 v1)))), .int .i64 2] (.string (be2 (cv .u64 (sumS (((e4h t p s.size) ++ (⟨#[0, 0]⟩ : ByteArray)) ++ (e4k h0 l0 h1 l1 v0 v1)))))) (fun _ => by kernel_rfl) (fun w M => c_num2 (cv .u64 (sumS (((e4h t p s.size) ++ (⟨#[0, 0]⟩ : ByteArray)) ++ (e4k h0 l0 h1 l1 v0 v1)))) w M.laid) ?_
        refine k_val (want_no rfl) (some 69) rfl (.string ((e4h t p s.size) ++ (be2 (cv .u64 (sumS (((e4h t p s.size) ++ (⟨#[0, 0]⟩ : ByteArray)) ++ (e4k h0 l0 h1 l1 v0 v1))))))) (run_cat 9 9 _ _ rfl (e4h t p s.size) (be2 (cv .u64 (sumS (((e4h t p s.size) ++ (⟨#[0, 0]⟩ : ByteArray)) ++ (e4k h0 l0 h1 l1 v0 v1))))) (by kernel_rfl) (by kernel_rfl) (by (try simp only [ByteArray.size_append, be2_size, bs_size, e4h_size, List.length_cons, List.length_nil]); have q0 := dB_le v0 h0 l0; have q1 := dB_le v1 h1 l1; have q2 := e4k_le h0 l0 h1 l1 v0 v1; have q3 : (⟨#[96, 0, 0, 0]⟩ : ByteArray).size = 4 := rfl; have q4 : (⟨#[69, 0]⟩ : ByteArray).size = 2 := rfl; have q5 : (⟨#[0, 0, 0, 0]⟩ : ByteArray).size = 4 := rfl; have q6 : (⟨#[0, 0]⟩ : ByteArray).size = 2 := rfl; omega)) ?_
        refine k_val (want_no rfl) (some 70) rfl (.string (e4k h0 l0 h1 l1 v0 v1)) (fun _ => by kernel_rfl) ?_
        refine k_val (want_no rfl) (some 71) rfl (.string (((e4h t p s.size) ++ (be2 (cv .u64 (sumS (((e4h t p s.size) ++ (⟨#[0, 0]⟩ : ByteArray)) ++ (e4k h0 l0 h1 l1 v0 v1)))))) ++ (e4k h0 l0 h1 l1 v0 v1))) (run_cat 9 9 _ _ rfl ((e4h t p s.size) ++ (be2 (cv .u64 (sumS (((e4h t p s.size) ++ (⟨#[0, 0]⟩ : ByteArray)) ++ (e4k h0 l0 h1 l1 v0 v1)))))) (e4k h0 l0 h1 l1 v0 v1) (by kernel_rfl) (by kernel_rfl) (by (try simp only [ByteArray.size_append, be2_size, bs_size, e4h_size, List.length_cons, List.length_nil]); have q0 := dB_le v0 h0 l0; have q1 := dB_le v1 h1 l1; have q2 := e4k_le h0 l0 h1 l1 v0 v1; have q3 : (⟨#[96, 0, 0, 0]⟩ : ByteArray).size = 4 := rfl; have q4 : (⟨#[69, 0]⟩ : ByteArray).size = 2 := rfl; have q5 : (⟨#[0, 0, 0, 0]⟩ : ByteArray).size = 4 := rfl; have q6 : (⟨#[0, 0]⟩ : ByteArray).size = 2 := rfl; omega)) ?_
        refine k_val (want_no rfl) (some 72) rfl (.pointer (some ⟨g1, 8, none⟩)) (fun _ => by kernel_rfl) ?_
        refine k_cell M (want_no rfl) (some 73) rfl 9 _ rfl g1 8 (by kernel_rfl) (.string s) (fun _ => by kernel_rfl) (fun w M => M.cell 0 rfl (by decide) rfl) ?_
        refine k_val (want_no rfl) (some 74) rfl (.string ((((e4h t p s.size) ++ (be2 (cv .u64 (sumS (((e4h t p s.size) ++ (⟨#[0, 0]⟩ : ByteArray)) ++ (e4k h0 l0 h1 l1 v0 v1)))))) ++ (e4k h0 l0 h1 l1 v0 v1)) ++ s)) (run_cat 9 9 _ _ rfl (((e4h t p s.size) ++ (be2 (cv .u64 (sumS (((e4h t p s.size) ++ (⟨#[0, 0]⟩ : ByteArray)) ++ (e4k h0 l0 h1 l1 v0 v1)))))) ++ (e4k h0 l0 h1 l1 v0 v1)) s (by kernel_rfl) (by kernel_rfl) (by (try simp only [ByteArray.size_append, be2_size, bs_size, e4h_size, List.length_cons, List.length_nil]); have q0 := dB_le v0 h0 l0; have q1 := dB_le v1 h1 l1; have q2 := e4k_le h0 l0 h1 l1 v0 v1; have q3 : (⟨#[96, 0, 0, 0]⟩ : ByteArray).size = 4 := rfl; have q4 : (⟨#[69, 0]⟩ : ByteArray).size = 2 := rfl; have q5 : (⟨#[0, 0, 0, 0]⟩ : ByteArray).size = 4 := rfl; have q6 : (⟨#[0, 0]⟩ : ByteArray).size = 2 := rfl; omega)) ?_
        refine k_val (want_no rfl) (some 2) rfl (.string ((((e4h t p s.size) ++ (be2 (cv .u64 (sumS (((e4h t p s.size) ++ (⟨#[0, 0]⟩ : ByteArray)) ++ (e4k h0 l0 h1 l1 v0 v1)))))) ++ (e4k h0 l0 h1 l1 v0 v1)) ++ s)) (fun _ => by kernel_rfl) ?_
        refine kl_nil ?_
        intro u7 M
        replace M : Mem ⟨w, []⟩ [⟨g1, .cells (av 9 (ls [.bool (v0), .int .u64 h0, .int .u64 l0, .bool (v1), .int .u64 h1, .int .u64 l1, .int .u8 p, .int .u8 t, .string s])) 26⟩, ⟨g2, .cells (av 2 (ls [.int .u8 t, .int .u8 p])) 5⟩] u7 := M
        refine pl_val (want_no rfl) (some 3) rfl (.int .i64 0) (fun _ => by kernel_rfl) ?_
        refine pl_nil ?_
        refine au_then ?_
        refine wp_ret ?_
        have e0 : (dE v0 h0 l0 v1 h1 l1 p t s) = ((((e4h t p s.size) ++ (be2 (cv .u64 (sumS (((e4h t p s.size) ++ (⟨#[0, 0]⟩ : ByteArray)) ++ (e4k h0 l0 h1 l1 v0 v1)))))) ++ (e4k h0 l0 h1 l1 v0 v1)) ++ s) := by unfold dE; rw [if_pos c0, if_neg (by rw [c1]; decide)]; rfl
        have e1 : (my v0 h0 l0 v1 h1 l1 (s.size : Int)) = 0 := c0
        exact bodyPost_ret (v := .tuple #[.string ((((e4h t p s.size) ++ (be2 (cv .u64 (sumS (((e4h t p s.size) ++ (⟨#[0, 0]⟩ : ByteArray)) ++ (e4k h0 l0 h1 l1 v0 v1)))))) ++ (e4k h0 l0 h1 l1 v0 v1)) ++ s), .int .i64 0]) (results_tmp2 Tryz.results11 _ _ _ _ (by kernel_rfl) (by kernel_rfl)) (by kernel_rfl) ⟨by simp only [e0, e1], below_grown M.old⟩
      · skip
        refine pl_mk M (want_no rfl) (some 51) rfl (fun g2 => .slice (some ⟨g2, 0, none⟩) 2 2) (.cells (av 2 (ls [.int .u8 t, .int .u8 p])) 5) (fun _ => by kernel_rfl) ?_
        intro g2 u4 M
        replace M : Mem ⟨w, []⟩ [⟨g1, .cells (av 9 (ls [.bool (v0), .int .u64 h0, .int .u64 l0, .bool (v1), .int .u64 h1, .int .u64 l1, .int .u8 p, .int .u8 t, .string s])) 26⟩, ⟨g2, .cells (av 2 (ls [.int .u8 t, .int .u8 p])) 5⟩] u4 := M
        refine pl_nil ?_
        refine au_then ?_
        refine ⟨(M.drop (.cons_cons _ (.cons _ (.slnil)))), ?_⟩
        refine hl_two 5 13 (by decide) (by decide) (by kernel_rfl) rfl rfl ?_ ?_
        · skip
          refine pl_call M (want_no rfl) (some 44) rfl 34 #[.int .u64 (cv .u64 (20 + (s.size : Int))), .int .i64 2] (.string (be2 (cv .u64 (20 + (s.size : Int))))) (fun _ => by kernel_rfl) (fun w M => c_num2 (cv .u64 (20 + (s.size : Int))) w M.laid) ?_
          intro u5 M
          refine pl_nil ?_
          refine au_then ?_
          refine ⟨(M.drop (.cons_cons _ (.cons _ (.slnil)))), ?_⟩
          refine hl_val (M.drop (.cons_cons _ (.cons _ (.slnil)))) 6 rfl (by decide) (by kernel_rfl) (by kernel_rfl) (want_no rfl) (some 45) rfl (.string ((⟨#[69, 0]⟩ : ByteArray) ++ (be2 (cv .u64 (20 + (s.size : Int)))))) (fun w _ => (run_cat 9 9 _ _ rfl ⟨#[69, 0]⟩ (be2 (cv .u64 (20 + (s.size : Int)))) (by kernel_rfl) (by kernel_rfl) (by (try simp only [ByteArray.size_append, be2_size, bs_size, e4h_size, List.length_cons, List.length_nil]); have q0 := dB_le v0 h0 l0; have q1 := dB_le v1 h1 l1; have q2 := e4k_le h0 l0 h1 l1 v0 v1; have q3 : (⟨#[96, 0, 0, 0]⟩ : ByteArray).size = 4 := rfl; have q4 : (⟨#[69, 0]⟩ : ByteArray).size = 2 := rfl; have q5 : (⟨#[0, 0, 0, 0]⟩ : ByteArray).size = 4 := rfl; have q6 : (⟨#[0, 0]⟩ : ByteArray).size = 2 := rfl; omega)) w) ?_
          refine hl_val (M.drop (.cons_cons _ (.cons _ (.slnil)))) 7 rfl (by decide) (by kernel_rfl) (by kernel_rfl) (want_no rfl) (some 46) rfl (.string (((⟨#[69, 0]⟩ : ByteArray) ++ (be2 (cv .u64 (20 + (s.size : Int))))) ++ (⟨#[0, 0, 0, 0]⟩ : ByteArray))) (fun w _ => (run_cat 9 9 _ _ rfl ((⟨#[69, 0]⟩ : ByteArray) ++ (be2 (cv .u64 (20 + (s.size : Int))))) ⟨#[0, 0, 0, 0]⟩ (by kernel_rfl) (by kernel_rfl) (by (try simp only [ByteArray.size_append, be2_size, bs_size, e4h_size, List.length_cons, List.length_nil]); have q0 := dB_le v0 h0 l0; have q1 := dB_le v1 h1 l1; have q2 := e4k_le h0 l0 h1 l1 v0 v1; have q3 : (⟨#[96, 0, 0, 0]⟩ : ByteArray).size = 4 := rfl; have q4 : (⟨#[69, 0]⟩ : ByteArray).size = 2 := rfl; have q5 : (⟨#[0, 0, 0, 0]⟩ : ByteArray).size = 4 := rfl; have q6 : (⟨#[0, 0]⟩ : ByteArray).size = 2 := rfl; omega)) w) ?_
          refine hl_one 13 (by decide) (by kernel_rfl) rfl ?_
          refine pl_back M (want_no rfl) (some 52) rfl _ rfl 1 g2 2 2 (by kernel_rfl) _ rfl [t, p] 2 (sb_ls [t, p] _) rfl (by intro x hx; simp only [List.mem_cons, List.mem_nil_iff, or_false] at hx; rcases hx with rfl | rfl <;> assumption) ?_
          refine pl_nil ?_
          refine au_then ?_
          refine ⟨(M.drop (.cons_cons _ (.cons _ (.slnil)))), ?_⟩
          refine hl_val (M.drop (.cons_cons _ (.cons _ (.slnil)))) 14 rfl (by decide) (by kernel_rfl) (by kernel_rfl) (want_no rfl) (some 53) rfl (.string ((((⟨#[69, 0]⟩ : ByteArray) ++ (be2 (cv .u64 (20 + (s.size : Int))))) ++ (⟨#[0, 0, 0, 0]⟩ : ByteArray)) ++ (bs [t, p]))) (fun w _ => (run_cat 9 9 _ _ rfl (((⟨#[69, 0]⟩ : ByteArray) ++ (be2 (cv .u64 (20 + (s.size : Int))))) ++ (⟨#[0, 0, 0, 0]⟩ : ByteArray)) (bs [t, p]) (by kernel_rfl) (by kernel_rfl) (by (try simp only [ByteArray.size_append, be2_size, bs_size, e4h_size, List.length_cons, List.length_nil]); have q0 := dB_le v0 h0 l0; have q1 := dB_le v1 h1 l1; have q2 := e4k_le h0 l0 h1 l1 v0 v1; have q3 : (⟨#[96, 0, 0, 0]⟩ : ByteArray).size = 4 := rfl; have q4 : (⟨#[69, 0]⟩ : ByteArray).size = 2 := rfl; have q5 : (⟨#[0, 0, 0, 0]⟩ : ByteArray).size = 4 := rfl; have q6 : (⟨#[0, 0]⟩ : ByteArray).size = 2 := rfl; omega)) w) ?_
          refine hl_end (by kernel_rfl) (by kernel_rfl) rfl ?_
          refine pl_val (want_no rfl) (some 5) rfl (.string ((((⟨#[69, 0]⟩ : ByteArray) ++ (be2 (cv .u64 (20 + (s.size : Int))))) ++ (⟨#[0, 0, 0, 0]⟩ : ByteArray)) ++ (bs [t, p]))) (fun _ => by kernel_rfl) ?_
          refine pl_nil ?_
          refine au_then ?_
          refine au_then ?_
          refine wp_seq ?_
          refine rg_tail M 7 (by kernel_rfl) (by kernel_rfl) ?_
          simp only [List.take_succ_cons, List.take_zero]
          refine k_val (want_no rfl) (some 54) rfl (.pointer (some ⟨g1, 0, none⟩)) (fun _ => by kernel_rfl) ?_
          refine k_load M (want_no rfl) (some 55) rfl 24 _ rfl 0 g1 0 (by kernel_rfl) 9 26 (ls [.bool (v0), .int .u64 h0, .int .u64 l0, .bool (v1), .int .u64 h1, .int .u64 l1, .int .u8 p, .int .u8 t, .string s]) rfl 3 (ls [.bool (v0), .int .u64 h0, .int .u64 l0]) (part_ls _ 0 3 _ rfl) (by decide) _ Tryz.underlying24 rfl inz24 ?_
          refine k_call M (want_no rfl) (some 56) rfl 35 #[.agg (av 3 (ls [.bool (v0), .int .u64 h0, .int .u64 l0]))] (.string (dB v0 h0 l0)) (fun _ => by kernel_rfl) (fun w M => d_Bytes v0 h0 l0 w M.laid) ?_
          refine k_val (want_no rfl) (some 57) rfl (.pointer (some ⟨g1, 3, none⟩)) (fun _ => by kernel_rfl) ?_
          refine k_load M (want_no rfl) (some 58) rfl 24 _ rfl 0 g1 3 (by kernel_rfl) 9 26 (ls [.bool (v0), .int .u64 h0, .int .u64 l0, .bool (v1), .int .u64 h1, .int .u64 l1, .int .u8 p, .int .u8 t, .string s]) rfl 3 (ls [.bool (v1), .int .u64 h1, .int .u64 l1]) (part_ls _ 3 3 _ rfl) (by decide) _ Tryz.underlying24 rfl inz24 ?_
          refine k_call M (want_no rfl) (some 59) rfl 35 #[.agg (av 3 (ls [.bool (v1), .int .u64 h1, .int .u64 l1]))] (.string (dB v1 h1 l1)) (fun _ => by kernel_rfl) (fun w M => d_Bytes v1 h1 l1 w M.laid) ?_
          refine k_val (want_no rfl) (some 60) rfl (.string ((dB v0 h0 l0) ++ (dB v1 h1 l1))) (run_cat 9 9 _ _ rfl (dB v0 h0 l0) (dB v1 h1 l1) (by kernel_rfl) (by kernel_rfl) (by (try simp only [ByteArray.size_append, be2_size, bs_size, e4h_size, List.length_cons, List.length_nil]); have q0 := dB_le v0 h0 l0; have q1 := dB_le v1 h1 l1; have q2 := e4k_le h0 l0 h1 l1 v0 v1; have q3 : (⟨#[96, 0, 0, 0]⟩ : ByteArray).size = 4 := rfl; have q4 : (⟨#[69, 0]⟩ : ByteArray).size = 2 := rfl; have q5 : (⟨#[0, 0, 0, 0]⟩ : ByteArray).size = 4 := rfl; have q6 : (⟨#[0, 0]⟩ : ByteArray).size = 2 := rfl; omega)) ?_
          refine kl_nil ?_
          intro u6 M
          replace M : Mem ⟨w, []⟩ [⟨g1, .cells (av 9 (ls [.bool (v0), .int .u64 h0, .int .u64 l0, .bool (v1), .int .u64 h1, .int .u64 l1, .int .u8 p, .int .u8 t, .string s])) 26⟩, ⟨g2, .cells (av 2 (ls [.int .u8 t, .int .u8 p])) 5⟩] u6 := M
          refine pl_val (want_no rfl) (some 6) rfl (.string ((dB v0 h0 l0) ++ (dB v1 h1 l1))) (fun _ => by kernel_rfl) ?_
          refine pl_nil ?_
          refine au_then ?_
          refine wp_seq ?_
          refine rg_tail M 15 (by kernel_rfl) (by kernel_rfl) ?_
          simp only [List.take_succ_cons, List.take_zero]
          refine k_val (want_no rfl) (some 61) rfl (.string (e4h t p s.size)) (fun _ => by kernel_rfl) ?_
          refine k_val (want_no rfl) (some 62) rfl (.string (e4h t p s.size)) (fun _ => by kernel_rfl) ?_
          refine k_val (want_no rfl) (some 63) rfl (.string ((e4h t p s.size) ++ (⟨#[0, 0]⟩ : ByteArray))) (run_cat 9 9 _ _ rfl (e4h t p s.size) ⟨#[0, 0]⟩ (by kernel_rfl) (by kernel_rfl) (by (try simp only [ByteArray.size_append, be2_size, bs_size, e4h_size, List.length_cons, List.length_nil]); have q0 := dB_le v0 h0 l0; have q1 := dB_le v1 h1 l1; have q2 := e4k_le h0 l0 h1 l1 v0 v1; have q3 : (⟨#[96, 0, 0, 0]⟩ : ByteArray).size = 4 := rfl; have q4 : (⟨#[69, 0]⟩ : ByteArray).size = 2 := rfl; have q5 : (⟨#[0, 0, 0, 0]⟩ : ByteArray).size = 4 := rfl; have q6 : (⟨#[0, 0]⟩ : ByteArray).size = 2 := rfl; omega)) ?_
          refine k_val (want_no rfl) (some 64) rfl (.string (e4k h0 l0 h1 l1 v0 v1)) (fun _ => by kernel_rfl) ?_
          refine k_val (want_no rfl) (some 65) rfl (.string (((e4h t p s.size) ++ (⟨#[0, 0]⟩ : ByteArray)) ++ (e4k h0 l0 h1 l1 v0 v1))) (run_cat 9 9 _ _ rfl ((e4h t p s.size) ++ (⟨#[0, 0]⟩ : ByteArray)) (e4k h0 l0 h1 l1 v0 v1) (by kernel_rfl) (by kernel_rfl) (by (try simp only [ByteArray.size_append, be2_size, bs_size, e4h_size, List.length_cons, List.length_nil]); have q0 := dB_le v0 h0 l0; have q1 := dB_le v1 h1 l1; have q2 := e4k_le h0 l0 h1 l1 v0 v1; have q3 : (⟨#[96, 0, 0, 0]⟩ : ByteArray).size = 4 := rfl; have q4 : (⟨#[69, 0]⟩ : ByteArray).size = 2 := rfl; have q5 : (⟨#[0, 0, 0, 0]⟩ : ByteArray).size = 4 := rfl; have q6 : (⟨#[0, 0]⟩ : ByteArray).size = 2 := rfl; omega)) ?_
          refine k_call M (want_no rfl) (some 66) rfl 15 #[.string (((e4h t p s.size) ++ (⟨#[0, 0]⟩ : ByteArray)) ++ (e4k h0 l0 h1 l1 v0 v1))] (.int .u16 (sumS (((e4h t p s.size) ++ (⟨#[0, 0]⟩ : ByteArray)) ++ (e4k h0 l0 h1 l1 v0 v1)))) (fun _ => by kernel_rfl) (fun w M => d_Sum (((e4h t p s.size) ++ (⟨#[0, 0]⟩ : ByteArray)) ++ (e4k h0 l0 h1 l1 v0 v1)) (by (try simp only [ByteArray.size_append, be2_size, bs_size, e4h_size, List.length_cons, List.length_nil]); have q0 := dB_le v0 h0 l0; have q1 := dB_le v1 h1 l1; have q2 := e4k_le h0 l0 h1 l1 v0 v1; have q3 : (⟨#[96, 0, 0, 0]⟩ : ByteArray).size = 4 := rfl; have q4 : (⟨#[69, 0]⟩ : ByteArray).size = 2 := rfl; have q5 : (⟨#[0, 0, 0, 0]⟩ : ByteArray).size = 4 := rfl; have q6 : (⟨#[0, 0]⟩ : ByteArray).size = 2 := rfl; omega) w M.laid) ?_
          refine k_val (want_no rfl) (some 67) rfl (.int .u64 (cv .u64 (sumS (((e4h t p s.size) ++ (⟨#[0, 0]⟩ : ByteArray)) ++ (e4k h0 l0 h1 l1 v0 v1))))) (fun _ => by kernel_rfl) ?_
          refine k_call M (want_no rfl) (some 68) rfl 34 #[.int .u64 (cv .u64 (sumS (((e4h t p s.size) ++ (⟨#[0, 0]⟩ : ByteArray)) ++ (e4k h0 l0 h1 l1 v0 v1)))), .int .i64 2] (.string (be2 (cv .u64 (sumS (((e4h t p s.size) ++ (⟨#[0, 0]⟩ : ByteArray)) ++ (e4k h0 l0 h1 l1 v0 v1)))))) (fun _ => by kernel_rfl) (fun w M => c_num2 (cv .u64 (sumS (((e4h t p s.size) ++ (⟨#[0, 0]⟩ : ByteArray)) ++ (e4k h0 l0 h1 l1 v0 v1)))) w M.laid) ?_
          refine k_val (want_no rfl) (some 69) rfl (.string ((e4h t p s.size) ++ (be2 (cv .u64 (sumS (((e4h t p s.size) ++ (⟨#[0, 0]⟩ : ByteArray)) ++ (e4k h0 l0 h1 l1 v0 v1))))))) (run_cat 9 9 _ _ rfl (e4h t p s.size) (be2 (cv .u64 (sumS (((e4h t p s.size) ++ (⟨#[0, 0]⟩ : ByteArray)) ++ (e4k h0 l0 h1 l1 v0 v1))))) (by kernel_rfl) (by kernel_rfl) (by (try simp only [ByteArray.size_append, be2_size, bs_size, e4h_size, List.length_cons, List.length_nil]); have q0 := dB_le v0 h0 l0; have q1 := dB_le v1 h1 l1; have q2 := e4k_le h0 l0 h1 l1 v0 v1; have q3 : (⟨#[96, 0, 0, 0]⟩ : ByteArray).size = 4 := rfl; have q4 : (⟨#[69, 0]⟩ : ByteArray).size = 2 := rfl; have q5 : (⟨#[0, 0, 0, 0]⟩ : ByteArray).size = 4 := rfl; have q6 : (⟨#[0, 0]⟩ : ByteArray).size = 2 := rfl; omega)) ?_
          refine k_val (want_no rfl) (some 70) rfl (.string (e4k h0 l0 h1 l1 v0 v1)) (fun _ => by kernel_rfl) ?_
          refine k_val (want_no rfl) (some 71) rfl (.string (((e4h t p s.size) ++ (be2 (cv .u64 (sumS (((e4h t p s.size) ++ (⟨#[0, 0]⟩ : ByteArray)) ++ (e4k h0 l0 h1 l1 v0 v1)))))) ++ (e4k h0 l0 h1 l1 v0 v1))) (run_cat 9 9 _ _ rfl ((e4h t p s.size) ++ (be2 (cv .u64 (sumS (((e4h t p s.size) ++ (⟨#[0, 0]⟩ : ByteArray)) ++ (e4k h0 l0 h1 l1 v0 v1)))))) (e4k h0 l0 h1 l1 v0 v1) (by kernel_rfl) (by kernel_rfl) (by (try simp only [ByteArray.size_append, be2_size, bs_size, e4h_size, List.length_cons, List.length_nil]); have q0 := dB_le v0 h0 l0; have q1 := dB_le v1 h1 l1; have q2 := e4k_le h0 l0 h1 l1 v0 v1; have q3 : (⟨#[96, 0, 0, 0]⟩ : ByteArray).size = 4 := rfl; have q4 : (⟨#[69, 0]⟩ : ByteArray).size = 2 := rfl; have q5 : (⟨#[0, 0, 0, 0]⟩ : ByteArray).size = 4 := rfl; have q6 : (⟨#[0, 0]⟩ : ByteArray).size = 2 := rfl; omega)) ?_
          refine k_val (want_no rfl) (some 72) rfl (.pointer (some ⟨g1, 8, none⟩)) (fun _ => by kernel_rfl) ?_
          refine k_cell M (want_no rfl) (some 73) rfl 9 _ rfl g1 8 (by kernel_rfl) (.string s) (fun _ => by kernel_rfl) (fun w M => M.cell 0 rfl (by decide) rfl) ?_
          refine k_val (want_no rfl) (some 74) rfl (.string ((((e4h t p s.size) ++ (be2 (cv .u64 (sumS (((e4h t p s.size) ++ (⟨#[0, 0]⟩ : ByteArray)) ++ (e4k h0 l0 h1 l1 v0 v1)))))) ++ (e4k h0 l0 h1 l1 v0 v1)) ++ s)) (run_cat 9 9 _ _ rfl (((e4h t p s.size) ++ (be2 (cv .u64 (sumS (((e4h t p s.size) ++ (⟨#[0, 0]⟩ : ByteArray)) ++ (e4k h0 l0 h1 l1 v0 v1)))))) ++ (e4k h0 l0 h1 l1 v0 v1)) s (by kernel_rfl) (by kernel_rfl) (by (try simp only [ByteArray.size_append, be2_size, bs_size, e4h_size, List.length_cons, List.length_nil]); have q0 := dB_le v0 h0 l0; have q1 := dB_le v1 h1 l1; have q2 := e4k_le h0 l0 h1 l1 v0 v1; have q3 : (⟨#[96, 0, 0, 0]⟩ : ByteArray).size = 4 := rfl; have q4 : (⟨#[69, 0]⟩ : ByteArray).size = 2 := rfl; have q5 : (⟨#[0, 0, 0, 0]⟩ : ByteArray).size = 4 := rfl; have q6 : (⟨#[0, 0]⟩ : ByteArray).size = 2 := rfl; omega)) ?_
          refine k_val (want_no rfl) (some 2) rfl (.string ((((e4h t p s.size) ++ (be2 (cv .u64 (sumS (((e4h t p s.size) ++ (⟨#[0, 0]⟩ : ByteArray)) ++ (e4k h0 l0 h1 l1 v0 v1)))))) ++ (e4k h0 l0 h1 l1 v0 v1)) ++ s)) (fun _ => by kernel_rfl) ?_
          refine kl_nil ?_
          intro u7 M
          replace M : Mem ⟨w, []⟩ [⟨g1, .cells (av 9 (ls [.bool (v0), .int .u64 h0, .int .u64 l0, .bool (v1), .int .u64 h1, .int .u64 l1, .int .u8 p, .int .u8 t, .string s])) 26⟩, ⟨g2, .cells (av 2 (ls [.int .u8 t, .int .u8 p])) 5⟩] u7 := M
          refine pl_val (want_no rfl) (some 3) rfl (.int .i64 0) (fun _ => by kernel_rfl) ?_
          refine pl_nil ?_
          refine au_then ?_
          refine wp_ret ?_
          have e0 : (dE v0 h0 l0 v1 h1 l1 p t s) = ((((e4h t p s.size) ++ (be2 (cv .u64 (sumS (((e4h t p s.size) ++ (⟨#[0, 0]⟩ : ByteArray)) ++ (e4k h0 l0 h1 l1 v0 v1)))))) ++ (e4k h0 l0 h1 l1 v0 v1)) ++ s) := by unfold dE; rw [if_pos c0, if_neg (by rw [c1]; decide)]; rfl
          have e1 : (my v0 h0 l0 v1 h1 l1 (s.size : Int)) = 0 := c0
          exact bodyPost_ret (v := .tuple #[.string ((((e4h t p s.size) ++ (be2 (cv .u64 (sumS (((e4h t p s.size) ++ (⟨#[0, 0]⟩ : ByteArray)) ++ (e4k h0 l0 h1 l1 v0 v1)))))) ++ (e4k h0 l0 h1 l1 v0 v1)) ++ s), .int .i64 0]) (results_tmp2 Tryz.results11 _ _ _ _ (by kernel_rfl) (by kernel_rfl)) (by kernel_rfl) ⟨by simp only [e0, e1], below_grown M.old⟩
        · skip
          refine pl_back M (want_no rfl) (some 52) rfl _ rfl 1 g2 2 2 (by kernel_rfl) _ rfl [t, p] 2 (sb_ls [t, p] _) rfl (by intro x hx; simp only [List.mem_cons, List.mem_nil_iff, or_false] at hx; rcases hx with rfl | rfl <;> assumption) ?_
          refine pl_nil ?_
          refine au_then ?_
          refine ⟨(M.drop (.cons_cons _ (.cons _ (.slnil)))), ?_⟩
          refine hl_one 5 (by decide) (by kernel_rfl) rfl ?_
          refine pl_call M (want_no rfl) (some 44) rfl 34 #[.int .u64 (cv .u64 (20 + (s.size : Int))), .int .i64 2] (.string (be2 (cv .u64 (20 + (s.size : Int))))) (fun _ => by kernel_rfl) (fun w M => c_num2 (cv .u64 (20 + (s.size : Int))) w M.laid) ?_
          intro u5 M
          refine pl_nil ?_
          refine au_then ?_
          refine ⟨(M.drop (.cons_cons _ (.cons _ (.slnil)))), ?_⟩
          refine hl_val (M.drop (.cons_cons _ (.cons _ (.slnil)))) 6 rfl (by decide) (by kernel_rfl) (by kernel_rfl) (want_no rfl) (some 45) rfl (.string ((⟨#[69, 0]⟩ : ByteArray) ++ (be2 (cv .u64 (20 + (s.size : Int)))))) (fun w _ => (run_cat 9 9 _ _ rfl ⟨#[69, 0]⟩ (be2 (cv .u64 (20 + (s.size : Int)))) (by kernel_rfl) (by kernel_rfl) (by (try simp only [ByteArray.size_append, be2_size, bs_size, e4h_size, List.length_cons, List.length_nil]); have q0 := dB_le v0 h0 l0; have q1 := dB_le v1 h1 l1; have q2 := e4k_le h0 l0 h1 l1 v0 v1; have q3 : (⟨#[96, 0, 0, 0]⟩ : ByteArray).size = 4 := rfl; have q4 : (⟨#[69, 0]⟩ : ByteArray).size = 2 := rfl; have q5 : (⟨#[0, 0, 0, 0]⟩ : ByteArray).size = 4 := rfl; have q6 : (⟨#[0, 0]⟩ : ByteArray).size = 2 := rfl; omega)) w) ?_
          refine hl_val (M.drop (.cons_cons _ (.cons _ (.slnil)))) 7 rfl (by decide) (by kernel_rfl) (by kernel_rfl) (want_no rfl) (some 46) rfl (.string (((⟨#[69, 0]⟩ : ByteArray) ++ (be2 (cv .u64 (20 + (s.size : Int))))) ++ (⟨#[0, 0, 0, 0]⟩ : ByteArray))) (fun w _ => (run_cat 9 9 _ _ rfl ((⟨#[69, 0]⟩ : ByteArray) ++ (be2 (cv .u64 (20 + (s.size : Int))))) ⟨#[0, 0, 0, 0]⟩ (by kernel_rfl) (by kernel_rfl) (by (try simp only [ByteArray.size_append, be2_size, bs_size, e4h_size, List.length_cons, List.length_nil]); have q0 := dB_le v0 h0 l0; have q1 := dB_le v1 h1 l1; have q2 := e4k_le h0 l0 h1 l1 v0 v1; have q3 : (⟨#[96, 0, 0, 0]⟩ : ByteArray).size = 4 := rfl; have q4 : (⟨#[69, 0]⟩ : ByteArray).size = 2 := rfl; have q5 : (⟨#[0, 0, 0, 0]⟩ : ByteArray).size = 4 := rfl; have q6 : (⟨#[0, 0]⟩ : ByteArray).size = 2 := rfl; omega)) w) ?_
          refine hl_val (M.drop (.cons_cons _ (.cons _ (.slnil)))) 14 rfl (by decide) (by kernel_rfl) (by kernel_rfl) (want_no rfl) (some 53) rfl (.string ((((⟨#[69, 0]⟩ : ByteArray) ++ (be2 (cv .u64 (20 + (s.size : Int))))) ++ (⟨#[0, 0, 0, 0]⟩ : ByteArray)) ++ (bs [t, p]))) (fun w _ => (run_cat 9 9 _ _ rfl (((⟨#[69, 0]⟩ : ByteArray) ++ (be2 (cv .u64 (20 + (s.size : Int))))) ++ (⟨#[0, 0, 0, 0]⟩ : ByteArray)) (bs [t, p]) (by kernel_rfl) (by kernel_rfl) (by (try simp only [ByteArray.size_append, be2_size, bs_size, e4h_size, List.length_cons, List.length_nil]); have q0 := dB_le v0 h0 l0; have q1 := dB_le v1 h1 l1; have q2 := e4k_le h0 l0 h1 l1 v0 v1; have q3 : (⟨#[96, 0, 0, 0]⟩ : ByteArray).size = 4 := rfl; have q4 : (⟨#[69, 0]⟩ : ByteArray).size = 2 := rfl; have q5 : (⟨#[0, 0, 0, 0]⟩ : ByteArray).size = 4 := rfl; have q6 : (⟨#[0, 0]⟩ : ByteArray).size = 2 := rfl; omega)) w) ?_
          refine hl_end (by kernel_rfl) (by kernel_rfl) rfl ?_
          refine pl_val (want_no rfl) (some 5) rfl (.string ((((⟨#[69, 0]⟩ : ByteArray) ++ (be2 (cv .u64 (20 + (s.size : Int))))) ++ (⟨#[0, 0, 0, 0]⟩ : ByteArray)) ++ (bs [t, p]))) (fun _ => by kernel_rfl) ?_
          refine pl_nil ?_
          refine au_then ?_
          refine au_then ?_
          refine wp_seq ?_
          refine rg_tail M 7 (by kernel_rfl) (by kernel_rfl) ?_
          simp only [List.take_succ_cons, List.take_zero]
          refine k_val (want_no rfl) (some 54) rfl (.pointer (some ⟨g1, 0, none⟩)) (fun _ => by kernel_rfl) ?_
          refine k_load M (want_no rfl) (some 55) rfl 24 _ rfl 0 g1 0 (by kernel_rfl) 9 26 (ls [.bool (v0), .int .u64 h0, .int .u64 l0, .bool (v1), .int .u64 h1, .int .u64 l1, .int .u8 p, .int .u8 t, .string s]) rfl 3 (ls [.bool (v0), .int .u64 h0, .int .u64 l0]) (part_ls _ 0 3 _ rfl) (by decide) _ Tryz.underlying24 rfl inz24 ?_
          refine k_call M (want_no rfl) (some 56) rfl 35 #[.agg (av 3 (ls [.bool (v0), .int .u64 h0, .int .u64 l0]))] (.string (dB v0 h0 l0)) (fun _ => by kernel_rfl) (fun w M => d_Bytes v0 h0 l0 w M.laid) ?_
          refine k_val (want_no rfl) (some 57) rfl (.pointer (some ⟨g1, 3, none⟩)) (fun _ => by kernel_rfl) ?_
          refine k_load M (want_no rfl) (some 58) rfl 24 _ rfl 0 g1 3 (by kernel_rfl) 9 26 (ls [.bool (v0), .int .u64 h0, .int .u64 l0, .bool (v1), .int .u64 h1, .int .u64 l1, .int .u8 p, .int .u8 t, .string s]) rfl 3 (ls [.bool (v1), .int .u64 h1, .int .u64 l1]) (part_ls _ 3 3 _ rfl) (by decide) _ Tryz.underlying24 rfl inz24 ?_
          refine k_call M (want_no rfl) (some 59) rfl 35 #[.agg (av 3 (ls [.bool (v1), .int .u64 h1, .int .u64 l1]))] (.string (dB v1 h1 l1)) (fun _ => by kernel_rfl) (fun w M => d_Bytes v1 h1 l1 w M.laid) ?_
          refine k_val (want_no rfl) (some 60) rfl (.string ((dB v0 h0 l0) ++ (dB v1 h1 l1))) (run_cat 9 9 _ _ rfl (dB v0 h0 l0) (dB v1 h1 l1) (by kernel_rfl) (by kernel_rfl) (by (try simp only [ByteArray.size_append, be2_size, bs_size, e4h_size, List.length_cons, List.length_nil]); have q0 := dB_le v0 h0 l0; have q1 := dB_le v1 h1 l1; have q2 := e4k_le h0 l0 h1 l1 v0 v1; have q3 : (⟨#[96, 0, 0, 0]⟩ : ByteArray).size = 4 := rfl; have q4 : (⟨#[69, 0]⟩ : ByteArray).size = 2 := rfl; have q5 : (⟨#[0, 0, 0, 0]⟩ : ByteArray).size = 4 := rfl; have q6 : (⟨#[0, 0]⟩ : ByteArray).size = 2 := rfl; omega)) ?_
          refine kl_nil ?_
          intro u6 M
          replace M : Mem ⟨w, []⟩ [⟨g1, .cells (av 9 (ls [.bool (v0), .int .u64 h0, .int .u64 l0, .bool (v1), .int .u64 h1, .int .u64 l1, .int .u8 p, .int .u8 t, .string s])) 26⟩, ⟨g2, .cells (av 2 (ls [.int .u8 t, .int .u8 p])) 5⟩] u6 := M
          refine pl_val (want_no rfl) (some 6) rfl (.string ((dB v0 h0 l0) ++ (dB v1 h1 l1))) (fun _ => by kernel_rfl) ?_
          refine pl_nil ?_
          refine au_then ?_
          refine wp_seq ?_
          refine rg_tail M 15 (by kernel_rfl) (by kernel_rfl) ?_
          simp only [List.take_succ_cons, List.take_zero]
          refine k_val (want_no rfl) (some 61) rfl (.string (e4h t p s.size)) (fun _ => by kernel_rfl) ?_
          refine k_val (want_no rfl) (some 62) rfl (.string (e4h t p s.size)) (fun _ => by kernel_rfl) ?_
          refine k_val (want_no rfl) (some 63) rfl (.string ((e4h t p s.size) ++ (⟨#[0, 0]⟩ : ByteArray))) (run_cat 9 9 _ _ rfl (e4h t p s.size) ⟨#[0, 0]⟩ (by kernel_rfl) (by kernel_rfl) (by (try simp only [ByteArray.size_append, be2_size, bs_size, e4h_size, List.length_cons, List.length_nil]); have q0 := dB_le v0 h0 l0; have q1 := dB_le v1 h1 l1; have q2 := e4k_le h0 l0 h1 l1 v0 v1; have q3 : (⟨#[96, 0, 0, 0]⟩ : ByteArray).size = 4 := rfl; have q4 : (⟨#[69, 0]⟩ : ByteArray).size = 2 := rfl; have q5 : (⟨#[0, 0, 0, 0]⟩ : ByteArray).size = 4 := rfl; have q6 : (⟨#[0, 0]⟩ : ByteArray).size = 2 := rfl; omega)) ?_
          refine k_val (want_no rfl) (some 64) rfl (.string (e4k h0 l0 h1 l1 v0 v1)) (fun _ => by kernel_rfl) ?_
          refine k_val (want_no rfl) (some 65) rfl (.string (((e4h t p s.size) ++ (⟨#[0, 0]⟩ : ByteArray)) ++ (e4k h0 l0 h1 l1 v0 v1))) (run_cat 9 9 _ _ rfl ((e4h t p s.size) ++ (⟨#[0, 0]⟩ : ByteArray)) (e4k h0 l0 h1 l1 v0 v1) (by kernel_rfl) (by kernel_rfl) (by (try simp only [ByteArray.size_append, be2_size, bs_size, e4h_size, List.length_cons, List.length_nil]); have q0 := dB_le v0 h0 l0; have q1 := dB_le v1 h1 l1; have q2 := e4k_le h0 l0 h1 l1 v0 v1; have q3 : (⟨#[96, 0, 0, 0]⟩ : ByteArray).size = 4 := rfl; have q4 : (⟨#[69, 0]⟩ : ByteArray).size = 2 := rfl; have q5 : (⟨#[0, 0, 0, 0]⟩ : ByteArray).size = 4 := rfl; have q6 : (⟨#[0, 0]⟩ : ByteArray).size = 2 := rfl; omega)) ?_
          refine k_call M (want_no rfl) (some 66) rfl 15 #[.string (((e4h t p s.size) ++ (⟨#[0, 0]⟩ : ByteArray)) ++ (e4k h0 l0 h1 l1 v0 v1))] (.int .u16 (sumS (((e4h t p s.size) ++ (⟨#[0, 0]⟩ : ByteArray)) ++ (e4k h0 l0 h1 l1 v0 v1)))) (fun _ => by kernel_rfl) (fun w M => d_Sum (((e4h t p s.size) ++ (⟨#[0, 0]⟩ : ByteArray)) ++ (e4k h0 l0 h1 l1 v0 v1)) (by (try simp only [ByteArray.size_append, be2_size, bs_size, e4h_size, List.length_cons, List.length_nil]); have q0 := dB_le v0 h0 l0; have q1 := dB_le v1 h1 l1; have q2 := e4k_le h0 l0 h1 l1 v0 v1; have q3 : (⟨#[96, 0, 0, 0]⟩ : ByteArray).size = 4 := rfl; have q4 : (⟨#[69, 0]⟩ : ByteArray).size = 2 := rfl; have q5 : (⟨#[0, 0, 0, 0]⟩ : ByteArray).size = 4 := rfl; have q6 : (⟨#[0, 0]⟩ : ByteArray).size = 2 := rfl; omega) w M.laid) ?_
          refine k_val (want_no rfl) (some 67) rfl (.int .u64 (cv .u64 (sumS (((e4h t p s.size) ++ (⟨#[0, 0]⟩ : ByteArray)) ++ (e4k h0 l0 h1 l1 v0 v1))))) (fun _ => by kernel_rfl) ?_
          refine k_call M (want_no rfl) (some 68) rfl 34 #[.int .u64 (cv .u64 (sumS (((e4h t p s.size) ++ (⟨#[0, 0]⟩ : ByteArray)) ++ (e4k h0 l0 h1 l1 v0 v1)))), .int .i64 2] (.string (be2 (cv .u64 (sumS (((e4h t p s.size) ++ (⟨#[0, 0]⟩ : ByteArray)) ++ (e4k h0 l0 h1 l1 v0 v1)))))) (fun _ => by kernel_rfl) (fun w M => c_num2 (cv .u64 (sumS (((e4h t p s.size) ++ (⟨#[0, 0]⟩ : ByteArray)) ++ (e4k h0 l0 h1 l1 v0 v1)))) w M.laid) ?_
          refine k_val (want_no rfl) (some 69) rfl (.string ((e4h t p s.size) ++ (be2 (cv .u64 (sumS (((e4h t p s.size) ++ (⟨#[0, 0]⟩ : ByteArray)) ++ (e4k h0 l0 h1 l1 v0 v1))))))) (run_cat 9 9 _ _ rfl (e4h t p s.size) (be2 (cv .u64 (sumS (((e4h t p s.size) ++ (⟨#[0, 0]⟩ : ByteArray)) ++ (e4k h0 l0 h1 l1 v0 v1))))) (by kernel_rfl) (by kernel_rfl) (by (try simp only [ByteArray.size_append, be2_size, bs_size, e4h_size, List.length_cons, List.length_nil]); have q0 := dB_le v0 h0 l0; have q1 := dB_le v1 h1 l1; have q2 := e4k_le h0 l0 h1 l1 v0 v1; have q3 : (⟨#[96, 0, 0, 0]⟩ : ByteArray).size = 4 := rfl; have q4 : (⟨#[69, 0]⟩ : ByteArray).size = 2 := rfl; have q5 : (⟨#[0, 0, 0, 0]⟩ : ByteArray).size = 4 := rfl; have q6 : (⟨#[0, 0]⟩ : ByteArray).size = 2 := rfl; omega)) ?_
          refine k_val (want_no rfl) (some 70) rfl (.string (e4k h0 l0 h1 l1 v0 v1)) (fun _ => by kernel_rfl) ?_
          refine k_val (want_no rfl) (some 71) rfl (.string (((e4h t p s.size) ++ (be2 (cv .u64 (sumS (((e4h t p s.size) ++ (⟨#[0, 0]⟩ : ByteArray)) ++ (e4k h0 l0 h1 l1 v0 v1)))))) ++ (e4k h0 l0 h1 l1 v0 v1))) (run_cat 9 9 _ _ rfl ((e4h t p s.size) ++ (be2 (cv .u64 (sumS (((e4h t p s.size) ++ (⟨#[0, 0]⟩ : ByteArray)) ++ (e4k h0 l0 h1 l1 v0 v1)))))) (e4k h0 l0 h1 l1 v0 v1) (by kernel_rfl) (by kernel_rfl) (by (try simp only [ByteArray.size_append, be2_size, bs_size, e4h_size, List.length_cons, List.length_nil]); have q0 := dB_le v0 h0 l0; have q1 := dB_le v1 h1 l1; have q2 := e4k_le h0 l0 h1 l1 v0 v1; have q3 : (⟨#[96, 0, 0, 0]⟩ : ByteArray).size = 4 := rfl; have q4 : (⟨#[69, 0]⟩ : ByteArray).size = 2 := rfl; have q5 : (⟨#[0, 0, 0, 0]⟩ : ByteArray).size = 4 := rfl; have q6 : (⟨#[0, 0]⟩ : ByteArray).size = 2 := rfl; omega)) ?_
          refine k_val (want_no rfl) (some 72) rfl (.pointer (some ⟨g1, 8, none⟩)) (fun _ => by kernel_rfl) ?_
          refine k_cell M (want_no rfl) (some 73) rfl 9 _ rfl g1 8 (by kernel_rfl) (.string s) (fun _ => by kernel_rfl) (fun w M => M.cell 0 rfl (by decide) rfl) ?_
          refine k_val (want_no rfl) (some 74) rfl (.string ((((e4h t p s.size) ++ (be2 (cv .u64 (sumS (((e4h t p s.size) ++ (⟨#[0, 0]⟩ : ByteArray)) ++ (e4k h0 l0 h1 l1 v0 v1)))))) ++ (e4k h0 l0 h1 l1 v0 v1)) ++ s)) (run_cat 9 9 _ _ rfl (((e4h t p s.size) ++ (be2 (cv .u64 (sumS (((e4h t p s.size) ++ (⟨#[0, 0]⟩ : ByteArray)) ++ (e4k h0 l0 h1 l1 v0 v1)))))) ++ (e4k h0 l0 h1 l1 v0 v1)) s (by kernel_rfl) (by kernel_rfl) (by (try simp only [ByteArray.size_append, be2_size, bs_size, e4h_size, List.length_cons, List.length_nil]); have q0 := dB_le v0 h0 l0; have q1 := dB_le v1 h1 l1; have q2 := e4k_le h0 l0 h1 l1 v0 v1; have q3 : (⟨#[96, 0, 0, 0]⟩ : ByteArray).size = 4 := rfl; have q4 : (⟨#[69, 0]⟩ : ByteArray).size = 2 := rfl; have q5 : (⟨#[0, 0, 0, 0]⟩ : ByteArray).size = 4 := rfl; have q6 : (⟨#[0, 0]⟩ : ByteArray).size = 2 := rfl; omega)) ?_
          refine k_val (want_no rfl) (some 2) rfl (.string ((((e4h t p s.size) ++ (be2 (cv .u64 (sumS (((e4h t p s.size) ++ (⟨#[0, 0]⟩ : ByteArray)) ++ (e4k h0 l0 h1 l1 v0 v1)))))) ++ (e4k h0 l0 h1 l1 v0 v1)) ++ s)) (fun _ => by kernel_rfl) ?_
          refine kl_nil ?_
          intro u7 M
          replace M : Mem ⟨w, []⟩ [⟨g1, .cells (av 9 (ls [.bool (v0), .int .u64 h0, .int .u64 l0, .bool (v1), .int .u64 h1, .int .u64 l1, .int .u8 p, .int .u8 t, .string s])) 26⟩, ⟨g2, .cells (av 2 (ls [.int .u8 t, .int .u8 p])) 5⟩] u7 := M
          refine pl_val (want_no rfl) (some 3) rfl (.int .i64 0) (fun _ => by kernel_rfl) ?_
          refine pl_nil ?_
          refine au_then ?_
          refine wp_ret ?_
          have e0 : (dE v0 h0 l0 v1 h1 l1 p t s) = ((((e4h t p s.size) ++ (be2 (cv .u64 (sumS (((e4h t p s.size) ++ (⟨#[0, 0]⟩ : ByteArray)) ++ (e4k h0 l0 h1 l1 v0 v1)))))) ++ (e4k h0 l0 h1 l1 v0 v1)) ++ s) := by unfold dE; rw [if_pos c0, if_neg (by rw [c1]; decide)]; rfl
          have e1 : (my v0 h0 l0 v1 h1 l1 (s.size : Int)) = 0 := c0
          exact bodyPost_ret (v := .tuple #[.string ((((e4h t p s.size) ++ (be2 (cv .u64 (sumS (((e4h t p s.size) ++ (⟨#[0, 0]⟩ : ByteArray)) ++ (e4k h0 l0 h1 l1 v0 v1)))))) ++ (e4k h0 l0 h1 l1 v0 v1)) ++ s), .int .i64 0]) (results_tmp2 Tryz.results11 _ _ _ _ (by kernel_rfl) (by kernel_rfl)) (by kernel_rfl) ⟨by simp only [e0, e1], below_grown M.old⟩
  · skip
    refine pl_val (want_no rfl) (some 10) rfl (.bool true) (fun w => Eq.trans (b := .ok (.value (.bool (!(decide ((my v0 h0 l0 v1 h1 l1 (s.size : Int)) = 0))))) w) (by kernel_rfl) (by rw [decide_eq_false (c0)]; rfl)) ?_
    refine pl_nil ?_
    refine au_then ?_
    refine wp_cond_true (by kernel_rfl) ?_
    refine wp_seq ?_
    refine rg_lit ?_
    refine pl_val (want_no rfl) (some 11) rfl (.int .i64 (my v0 h0 l0 v1 h1 l1 (s.size : Int))) (fun _ => by kernel_rfl) ?_
    refine pl_val (want_no rfl) (some 2) rfl (.string ⟨#[]⟩) (fun _ => by kernel_rfl) ?_
    refine pl_val (want_no rfl) (some 3) rfl (.int .i64 (my v0 h0 l0 v1 h1 l1 (s.size : Int))) (fun _ => by kernel_rfl) ?_
    refine pl_nil ?_
    refine au_then ?_
    refine wp_ret ?_
    refine au_then_ret ?_
    have e0 : (dE v0 h0 l0 v1 h1 l1 p t s) = ⟨#[]⟩ := by unfold dE; rw [if_neg c0]
    exact bodyPost_ret (v := .tuple #[.string ⟨#[]⟩, .int .i64 (my v0 h0 l0 v1 h1 l1 (s.size : Int))]) (results_tmp2 Tryz.results11 _ _ _ _ (by kernel_rfl) (by kernel_rfl)) (by kernel_rfl) ⟨by simp only [e0], below_grown M.old⟩


end Go.Proofs.YtndonmdgplojnaaGreatDoor
