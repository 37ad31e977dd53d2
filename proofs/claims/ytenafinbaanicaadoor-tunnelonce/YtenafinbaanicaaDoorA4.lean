/- Texts are put together: the walk of joined. -/
import Derived.Test.YtenafinbaanicaaDoorA3
namespace Go.Proofs.YtenafinbaanicaaDoor
open Go.RowKit
set_option maxRecDepth 100000

/-- The bytes that were put together: texts, each filled up; and their lengths. -/
def j1 (ad : ByteArray) : List UInt8 := ad.data.toList ++ List.replicate (pn ad.size) 0
def j1c (ad c : ByteArray) : List UInt8 := j1 ad ++ c.data.toList
def j2 (ad c : ByteArray) : List UInt8 := j1c ad c ++ List.replicate (pn (ad.size + pn ad.size + c.size)) 0
def m1 (ad : ByteArray) : List UInt8 := (wS (ad.size : Int)).data.toList
def m2 (ad c : ByteArray) : List UInt8 := m1 ad ++ (wS (c.size : Int)).data.toList
def mS (ad c : ByteArray) : ByteArray := ⟨(m2 ad c).toArray⟩
def jn (ad c : ByteArray) : ByteArray := ⟨(j2 ad c ++ m2 ad c).toArray⟩
theorem dl_len (s : ByteArray) : s.data.toList.length = s.size := rfl
theorem j1_len (ad : ByteArray) : (j1 ad).length = ad.size + pn ad.size := by
  unfold j1
  rw [List.length_append, dl_len, List.length_replicate]
theorem j1c_len (ad c : ByteArray) : (j1c ad c).length = ad.size + pn ad.size + c.size := by
  unfold j1c
  rw [List.length_append, dl_len, j1_len]
theorem j2_len (ad c : ByteArray) : (j2 ad c).length = ad.size + pn ad.size + c.size + pn (ad.size + pn ad.size + c.size) := by
  unfold j2
  rw [List.length_append, j1c_len, List.length_replicate]
theorem m1_len (ad : ByteArray) : (m1 ad).length = 8 := by
  unfold m1
  rw [dl_len, wS_size]
theorem m2_len (ad c : ByteArray) : (m2 ad c).length = 16 := by
  unfold m2
  rw [List.length_append, dl_len, wS_size, m1_len]
theorem rep_more (l : List UInt8) (j : Nat) : l ++ List.replicate j 0 ++ [UInt8.ofNat (0 : Int).toNat] = l ++ List.replicate (j + 1) 0 := by
  rw [List.append_assoc, List.replicate_succ']
  rfl
theorem rep_len (l : List UInt8) (n j : Nat) (h : l.length = n) : (l ++ List.replicate j 0).length = n + j := by
  rw [List.length_append, List.length_replicate, h]

set_option maxRecDepth 100000 in
set_option maxHeartbeats 4000000 in
theorem c_joined (ad c : ByteArray) (gt : Nat) (w : World) (hL : Laid w) (hz : ad.size + c.size ≤ 150000) (hg : gt < w.heap.size) (h0 : w.cell? ⟨gt, 0, none⟩ = some (.string ad)) (h1 : w.cell? ⟨gt, 1, none⟩ = some (.string c)) :
    Calls Tryd.prog 66 #[.slice (some ⟨gt, 0, none⟩) 2 2] w fun r w' => r = .returned (.string (jn ad c)) ∧ Below w.heap.size w w' := by
  have hpa := pn_lt ad.size
  go_enter Tryd.func66, Tryd.ntmps66
  have M := Mem.start hL
  refine sq ?_
  refine sR ?_
  refine pN M 3 (.cells (av 2 bF0) 109) ?_
  intro k1 u1 M
  refine pN M 4 (.cells (av 2 bF0) 109) ?_
  intro k2 u2 M
  refine pl_nil ?_
  have hS := SN.start2 M
  clear M
  have M := hS.mem hL
  refine au_then ?_
  refine wp_seq ?_
  refine sq ?_
  refine wp_block ?_
  refine wp_loop_rounds 3 ?_
  refine rounds_go ?_
  refine sq ?_
  refine wp_seq ?_
  refine wp_cond_true (by kernel_rfl) ?_
  refine wp_skip ?_
  refine au_then ?_
  refine wp_seq ?_
  refine wp_block ?_
  refine sR ?_
  refine pH 11 (.pointer (some ⟨gt, 0, none⟩)) (run_ix0 25 9 Tryd.underlying25 inz9 _ _ rfl gt 2 2 (by kernel_rfl) .i64 0 (by kernel_rfl) (by decide)) ?_
  refine pE M 12 gt 0 (.string ad) (fun w M => M.oldc (hS.cell hg h0) (by simp)) ?_
  refine rV 1 ?_
  refine nT ?_
  refine sR ?_
  refine rV 1 ?_
  refine pl_callr (want_no rfl) (some 14) rfl 83 #[.pointer (some ⟨k1, 0, none⟩), .string ad] (.tuple #[.int .i64 (ad.size : Int), .nilIface]) _ (fun _ => by kernel_rfl) ((hS.next M).wstr hL ad (by show 0 + ad.size ≤ _; omega)) ?_
  intro u3 hS9
  clear M hS
  have hS : SN w [⟨k1, ad.data.toList⟩, ⟨k2, []⟩] [] u3 := hS9
  have M := hS.mem hL
  refine nT ?_
  refine wp_seq ?_
  refine wp_block ?_
  obtain ⟨N0, hN0⟩ : ∃ N, N = pn ad.size := ⟨_, rfl⟩
  have hP0 : N0 = (16 - ad.size % 16) % 16 := hN0
  refine au_loop (fun j a u => ∃ v1 : Nat → Value, a = (fm ([.slice (some ⟨gt, 0, none⟩) 2 2, v1 1, .string ⟨#[]⟩, .pointer (some ⟨k1, 0, none⟩), .pointer (some ⟨k2, 0, none⟩), v1 5, .string ad, .slice (some ⟨gt, 0, none⟩) 2 2, .int .i64 2, .int .i64 0] ++ vr v1 10 18)) ∧ SN w [⟨k1, ad.data.toList ++ List.replicate j 0⟩, ⟨k2, []⟩] [] u) N0 (exS (by rw [List.replicate_zero, List.append_nil]; exact hS.next M)) ?_ ?_
  · intro j a u0 hj hI
    clear M hS
    obtain ⟨v1, rfl, hS⟩ := hI
    have M := hS.mem hL
    refine wp_seq ?_
    refine sR ?_
    refine pl_callr (want_no rfl) (some 15) rfl 84 #[.pointer (some ⟨k1, 0, none⟩)] (.int .i64 ((ad.size + j : Nat) : Int)) _ (fun _ => by kernel_rfl) (by have h9 := (hS.next M).len hL; rw [rep_len _ _ _ (dl_len ad)] at h9; exact h9) ?_
    intro u4 hS9
    clear M hS
    have hS : SN w [⟨k1, ad.data.toList ++ List.replicate j 0⟩, ⟨k2, []⟩] [] u4 := hS9
    have M := hS.mem hL
    refine ZQ 16 .i64 (Int.tmod ((ad.size + j : Nat) : Int) 16) (rem16 (ad.size + j)) ?_
    refine ZS 17 ((((ad.size + j) % 16 : Nat) : Int) = 0) ?_
    refine nT ?_
    refine wp_cond_true (by kernel_rfl) ?_
    refine wp_skip ?_
    refine au_then ?_
    refine wp_block ?_
    refine rg_lit ?_
    refine pl_callr (want_no rfl) (some 18) rfl 71 #[.pointer (some ⟨k1, 0, none⟩), .int .u8 0] .nilIface _ (fun _ => by kernel_rfl) ((hS.next M).wbyte hL 0 (by decide) (by decide) (by rw [rep_len _ _ _ (dl_len ad)]; omega)) ?_
    intro u5 hS9
    clear M hS
    have hS : SN w [⟨k1, ad.data.toList ++ List.replicate (j + 1) 0⟩, ⟨k2, []⟩] [] u5 := (by rw [← rep_more]; exact hS9)
    have M := hS.mem hL
    refine pl_nil ?_
    refine au_block ?_
    refine au_then ?_
    exact exS hS
  · intro a u0 hI
    clear M hS
    obtain ⟨v1, rfl, hS⟩ := hI
    have M := hS.mem hL
    refine wp_seq ?_
    refine sR ?_
    refine pl_callr (want_no rfl) (some 15) rfl 84 #[.pointer (some ⟨k1, 0, none⟩)] (.int .i64 ((ad.size + N0 : Nat) : Int)) _ (fun _ => by kernel_rfl) (by have h9 := (hS.next M).len hL; rw [rep_len _ _ _ (dl_len ad)] at h9; exact h9) ?_
    intro u6 hS9
    clear M hS
    have hS : SN w [⟨k1, ad.data.toList ++ List.replicate N0 0⟩, ⟨k2, []⟩] [] u6 := hS9
    have M := hS.mem hL
    refine ZQ 16 .i64 (Int.tmod ((ad.size + N0 : Nat) : Int) 16) (rem16 (ad.size + N0)) ?_
    refine ZD 17 ((((ad.size + N0) % 16 : Nat) : Int) = 0) ?_
    refine nT ?_
    refine wp_cond_false (by kernel_rfl) ?_
    refine wp_exit ?_
    refine au_then_exit ?_
    refine au_then_exit ?_
    refine au_block_exit ?_
    refine au_then ?_
    replace hS : SN w [⟨k1, (j1 ad)⟩, ⟨k2, []⟩] [] u6 := (by have h9 := hS.next M; rw [hN0] at h9; exact h9)
    clear M
    have M := hS.mem hL
    refine rg_lit ?_
    refine rV 2 ?_
    refine ZQ 21 .u64 (cv .u64 (ad.size : Int)) (cvu64 _ (by omega)) ?_
    refine pC M 22 53 #[.int .u64 (ad.size : Int)] (.string (wS (ad.size : Int))) (fun w M => c_word _ w M.laid) fun u7 M => ?_
    refine pl_callr (want_no rfl) (some 23) rfl 83 #[.pointer (some ⟨k2, 0, none⟩), .string (wS (ad.size : Int))] (.tuple #[.int .i64 ((wS (ad.size : Int)).size : Int), .nilIface]) _ (fun _ => by kernel_rfl) (((hS.next M).perm (.swap _ _ _)).wstr hL (wS (ad.size : Int)) (by rw [wS_size]; show 0 + 8 ≤ _; omega)) ?_
    intro u8 hS9
    clear M hS
    have hS : SN w [⟨k1, (j1 ad)⟩, ⟨k2, (m1 ad)⟩] [] u8 := hS9.perm (.swap _ _ _)
    have M := hS.mem hL
    refine pl_nil ?_
    refine au_block ?_
    refine au_then ?_
    refine rg_lit ?_
    refine rV 2 ?_
    refine nT ?_
    refine rounds_go ?_
    refine sq ?_
    refine wp_seq ?_
    refine wp_cond_true (by kernel_rfl) ?_
    refine wp_skip ?_
    refine au_then ?_
    refine wp_seq ?_
    refine wp_block ?_
    refine sR ?_
    refine pH 11 (.pointer (some ⟨gt, 1, none⟩)) (run_ix0 25 9 Tryd.underlying25 inz9 _ _ rfl gt 2 2 (by kernel_rfl) .i64 1 (by kernel_rfl) (by decide)) ?_
    refine pE M 12 gt 1 (.string c) (fun w M => M.oldc (hS.cell hg h1) (by simp)) ?_
    refine rV 1 ?_
    refine nT ?_
    refine sR ?_
    refine rV 1 ?_
    refine pl_callr (want_no rfl) (some 14) rfl 83 #[.pointer (some ⟨k1, 0, none⟩), .string c] (.tuple #[.int .i64 (c.size : Int), .nilIface]) _ (fun _ => by kernel_rfl) ((hS.next M).wstr hL c (by rw [j1_len]; omega)) ?_
    intro u9 hS9
    clear M hS
    have hS : SN w [⟨k1, (j1c ad c)⟩, ⟨k2, (m1 ad)⟩] [] u9 := hS9
    have M := hS.mem hL
    refine nT ?_
    refine wp_seq ?_
    refine wp_block ?_
    obtain ⟨N1, hN1⟩ : ∃ N, N = pn (ad.size + pn ad.size + c.size) := ⟨_, rfl⟩
    have hP1 : N1 = (16 - (ad.size + pn ad.size + c.size) % 16) % 16 := hN1
    refine au_loop (fun j a u => ∃ v2 : Nat → Value, a = (fm ([.slice (some ⟨gt, 0, none⟩) 2 2, v2 1, .string ⟨#[]⟩, .pointer (some ⟨k1, 0, none⟩), .pointer (some ⟨k2, 0, none⟩), v2 5, .string c, .slice (some ⟨gt, 0, none⟩) 2 2, .int .i64 2, .int .i64 1] ++ vr v2 10 18)) ∧ SN w [⟨k1, (j1c ad c) ++ List.replicate j 0⟩, ⟨k2, (m1 ad)⟩] [] u) N1 (exS (by rw [List.replicate_zero, List.append_nil]; exact hS.next M)) ?_ ?_
    · intro j a u0 hj hI
      clear M hS
      obtain ⟨v2, rfl, hS⟩ := hI
      have M := hS.mem hL
      refine wp_seq ?_
      refine sR ?_
      refine pl_callr (want_no rfl) (some 15) rfl 84 #[.pointer (some ⟨k1, 0, none⟩)] (.int .i64 (((ad.size + pn ad.size + c.size) + j : Nat) : Int)) _ (fun _ => by kernel_rfl) (by have h9 := (hS.next M).len hL; rw [rep_len _ _ _ (j1c_len ad c)] at h9; exact h9) ?_
      intro u10 hS9
      clear M hS
      have hS : SN w [⟨k1, (j1c ad c) ++ List.replicate j 0⟩, ⟨k2, (m1 ad)⟩] [] u10 := hS9
      have M := hS.mem hL
      refine ZQ 16 .i64 (Int.tmod (((ad.size + pn ad.size + c.size) + j : Nat) : Int) 16) (rem16 ((ad.size + pn ad.size + c.size) + j)) ?_
      refine ZS 17 (((((ad.size + pn ad.size + c.size) + j) % 16 : Nat) : Int) = 0) ?_
      refine nT ?_
      refine wp_cond_true (by kernel_rfl) ?_
      refine wp_skip ?_
      refine au_then ?_
      refine wp_block ?_
      refine rg_lit ?_
      refine pl_callr (want_no rfl) (some 18) rfl 71 #[.pointer (some ⟨k1, 0, none⟩), .int .u8 0] .nilIface _ (fun _ => by kernel_rfl) ((hS.next M).wbyte hL 0 (by decide) (by decide) (by rw [rep_len _ _ _ (j1c_len ad c)]; omega)) ?_
      intro u11 hS9
      clear M hS
      have hS : SN w [⟨k1, (j1c ad c) ++ List.replicate (j + 1) 0⟩, ⟨k2, (m1 ad)⟩] [] u11 := (by rw [← rep_more]; exact hS9)
      have M := hS.mem hL
      refine pl_nil ?_
      refine au_block ?_
      refine au_then ?_
      exact exS hS
    · intro a u0 hI
      clear M hS
      obtain ⟨v2, rfl, hS⟩ := hI
      have M := hS.mem hL
      refine wp_seq ?_
      refine sR ?_
      refine pl_callr (want_no rfl) (some 15) rfl 84 #[.pointer (some ⟨k1, 0, none⟩)] (.int .i64 (((ad.size + pn ad.size + c.size) + N1 : Nat) : Int)) _ (fun _ => by kernel_rfl) (by have h9 := (hS.next M).len hL; rw [rep_len _ _ _ (j1c_len ad c)] at h9; exact h9) ?_
      intro u12 hS9
      clear M hS
      have hS : SN w [⟨k1, (j1c ad c) ++ List.replicate N1 0⟩, ⟨k2, (m1 ad)⟩] [] u12 := hS9
      have M := hS.mem hL
      refine ZQ 16 .i64 (Int.tmod (((ad.size + pn ad.size + c.size) + N1 : Nat) : Int) 16) (rem16 ((ad.size + pn ad.size + c.size) + N1)) ?_
      refine ZD 17 (((((ad.size + pn ad.size + c.size) + N1) % 16 : Nat) : Int) = 0) ?_
      refine nT ?_
      refine wp_cond_false (by kernel_rfl) ?_
      refine wp_exit ?_
      refine au_then_exit ?_
      refine au_then_exit ?_
      refine au_block_exit ?_
      refine au_then ?_
      replace hS : SN w [⟨k1, (j2 ad c)⟩, ⟨k2, (m1 ad)⟩] [] u12 := (by have h9 := hS.next M; rw [hN1] at h9; exact h9)
      clear M
      have M := hS.mem hL
      refine rg_lit ?_
      refine rV 2 ?_
      refine ZQ 21 .u64 (cv .u64 (c.size : Int)) (cvu64 _ (by omega)) ?_
      refine pC M 22 53 #[.int .u64 (c.size : Int)] (.string (wS (c.size : Int))) (fun w M => c_word _ w M.laid) fun u13 M => ?_
      refine pl_callr (want_no rfl) (some 23) rfl 83 #[.pointer (some ⟨k2, 0, none⟩), .string (wS (c.size : Int))] (.tuple #[.int .i64 ((wS (c.size : Int)).size : Int), .nilIface]) _ (fun _ => by kernel_rfl) (((hS.next M).perm (.swap _ _ _)).wstr hL (wS (c.size : Int)) (by rw [m1_len, wS_size]; decide)) ?_
      intro u14 hS9
      clear M hS
      have hS : SN w [⟨k1, (j2 ad c)⟩, ⟨k2, (m2 ad c)⟩] [] u14 := hS9.perm (.swap _ _ _)
      have M := hS.mem hL
      refine pl_nil ?_
      refine au_block ?_
      refine au_then ?_
      refine rg_lit ?_
      refine rV 2 ?_
      refine nT ?_
      refine rounds_go ?_
      refine sq ?_
      refine wp_seq ?_
      refine wp_cond_false (by kernel_rfl) ?_
      refine wp_exit ?_
      refine au_then_exit ?_
      refine au_then_exit ?_
      refine au_block_exit ?_
      refine au_then ?_
      refine sR ?_
      refine pl_callr (want_no rfl) (some 25) rfl 72 #[.pointer (some ⟨k2, 0, none⟩)] (.string (mS ad c)) _ (fun _ => by kernel_rfl) (((hS.next M).perm (.swap _ _ _)).str hL (fun e => by have := m2_len ad c; rw [e] at this; cases this)) ?_
      intro u15 hS9
      clear M hS
      have hS : SN w [⟨k1, (j2 ad c)⟩, ⟨k2, (m2 ad c)⟩] [] u15 := hS9.perm (.swap _ _ _)
      have M := hS.mem hL
      refine pl_callr (want_no rfl) (some 26) rfl 83 #[.pointer (some ⟨k1, 0, none⟩), .string (mS ad c)] (.tuple #[.int .i64 ((mS ad c).size : Int), .nilIface]) _ (fun _ => by kernel_rfl) ((hS.next M).wstr hL (mS ad c) (by rw [j2_len]; show _ + (m2 ad c).length ≤ _; rw [m2_len]; have := pn_lt (ad.size + pn ad.size + c.size); omega)) ?_
      intro u16 hS9
      clear M hS
      have hS : SN w [⟨k1, (j2 ad c ++ m2 ad c)⟩, ⟨k2, (m2 ad c)⟩] [] u16 := hS9
      have M := hS.mem hL
      refine nT ?_
      refine sR ?_
      refine pl_callr (want_no rfl) (some 27) rfl 72 #[.pointer (some ⟨k1, 0, none⟩)] (.string (jn ad c)) _ (fun _ => by kernel_rfl) ((hS.next M).str hL (fun e => by have := j2_len ad c; have h3 := congrArg List.length e; rw [List.length_append, m2_len] at h3; simp at h3)) ?_
      intro u17 hS9
      clear M hS
      have hS : SN w [⟨k1, (j2 ad c ++ m2 ad c)⟩, ⟨k2, (m2 ad c)⟩] [] u17 := hS9
      have M := hS.mem hL
      refine rV 1 ?_
      refine nT ?_
      refine wp_ret ?_
      exact bX (.string (jn ad c)) ⟨rfl, (hS.next M).bel⟩

end Go.Proofs.YtenafinbaanicaaDoor
