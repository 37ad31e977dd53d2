/- Part 7 of the walks and facts behind ipReads_holds. -/
import Derived.Test.YtndonmdgplojnaaGreatDoorRe6
import Derived.HandedShaped
import Derived.Lay
import Derived.OpenShut
import Derived.ProofKit
import Derived.Shelf.Vars
import Derived.Test.YtndonmdgplojnaaGreatDoorRows
import Derived.Test.YtndonmdgplojnaaGreatDoorTie
/- What is read of any bytes: both sides find the same wrong, and hand out the same. -/
namespace Go.Proofs.YtndonmdgplojnaaGreatDoor
open Go.RowKit

theorem tk_at (s : ByteArray) (k n : Nat) (m : Int) (hm : m = (n : Int)) (h : k + n ≤ s.size) : tkV (s.extract k s.size) 0 m = s.extract k (k + n) ∧ tkS (s.extract k s.size) 0 m = s.extract (k + n) s.size ∧ tkF (s.extract k s.size) 0 m = 0 := by
  subst hm
  have hz : (s.extract k s.size).size = s.size - k := by rw [ByteArray.size_extract]; omega
  have c : (0 : Int) = 0 ∧ 0 ≤ (n : Int) ∧ (n : Int) ≤ ((s.extract k s.size).size : Int) := by
    rw [hz]
    omega
  refine ⟨?_, ?_, ?_⟩
  · unfold tkV
    rw [if_pos c, ByteArray.extract_extract, Int.toNat_natCast]
    congr 1
    omega
  · unfold tkS
    rw [if_pos c, ByteArray.extract_extract, Int.toNat_natCast, hz]
    congr 1
    omega
  · unfold tkF
    rw [if_pos rfl, if_neg (by omega), if_neg (by omega)]
theorem pA_eq (s : ByteArray) (k : Nat) (h : k + 2 ≤ s.size) : pA s k = bdv (s.extract k (k + 2)) := by
  have b := bdv2 s k
  unfold pA
  rw [(tk_at s k 2 2 rfl h).1, bnv_bdv]
  unfold cv
  simp only [IntKind.wrap, IntKind.signed, IntKind.bits]
  simp
  omega
theorem yd_un (x : Int) (h0 : 0 ≤ x) (h1 : x < 65536) : yd x 16384 = un x 49151 := by
  obtain ⟨n, rfl⟩ := Int.eq_ofNat_of_zero_le h0
  have e1 : BitVec.ofInt 16 (n : Int) = BitVec.ofNat 16 n := rfl
  have e2 : BitVec.ofInt 64 (n : Int) = BitVec.ofNat 64 n := rfl
  have e3 : (~~~ BitVec.ofInt 16 16384 : BitVec 16) = BitVec.ofNat 16 49151 := by decide
  have e4 : BitVec.ofInt 64 49151 = BitVec.ofNat 64 49151 := by decide
  unfold yd un
  rw [e1, e2, e3, e4, BitVec.toNat_and, BitVec.toNat_and, BitVec.toNat_ofNat, BitVec.toNat_ofNat, BitVec.toNat_ofNat, BitVec.toNat_ofNat, Nat.mod_eq_of_lt (show n < 2 ^ 16 by omega), Nat.mod_eq_of_lt (show n < 2 ^ 64 by omega)]
  show IntKind.wrap .u16 ((n &&& 49151 : Nat) : Int) = IntKind.wrap .u64 ((n &&& 49151 : Nat) : Int)
  rw [IntKind.wrap_u64]
  have hle : n &&& 49151 ≤ n := Nat.and_le_left
  simp only [IntKind.wrap, IntKind.signed, IntKind.bits]
  simp
  generalize n &&& 49151 = k at hle
  omega
theorem nib (b : Int) (h0 : 0 ≤ b) (h1 : b < 256) (h : sr b 4 = 4) : (b = 69) ↔ nb8 b 15 = 5 := by
  obtain ⟨n, rfl⟩ := Int.eq_ofNat_of_zero_le h0
  unfold sr at h
  rw [Int.fdiv_eq_ediv_of_nonneg _ (by decide)] at h
  have hn : 64 ≤ n ∧ n < 80 := by omega
  have key : ∀ m : Nat, m < 16 → ((((64 + m : Nat) : Int) = 69) ↔ nb8 ((64 + m : Nat) : Int) 15 = 5) := by decide
  have := key (n - 64) (by omega)
  rw [show 64 + (n - 64) = n by omega] at this
  exact this
theorem fa4_eq (s : ByteArray) (h : sr (bt s 0) 4 = 4) : fa4 s = r4E s := by
  unfold fa4 r4E
  split
  · rfl
  · rename_i hz
    have n0 := nib (bt s 0) (bt_nn s 0).1 (bt_nn s 0).2 h
    have b := bdv2 s 6
    rw [pA_eq s 2 (by omega), pA_eq s 6 (by omega), yd_un _ b.1 b.2]
    by_cases e : bt s 0 = 69
    · rw [if_pos e, if_pos (n0.1 e), Int.zero_add]
    · rw [if_neg e, if_neg fun x => e (n0.2 x)]
theorem fa6_eq (s : ByteArray) : fa6 s = r6E s := by
  unfold fa6 r6E
  split
  · rfl
  · rename_i hz
    rw [pA_eq s 4 (by omega)]
    have e : (40 + bdv (s.extract 4 (4 + 2)) = (s.size : Int)) = (bdv (s.extract 4 6) = (s.size : Int) - 40) := by
      apply propext
      show 40 + bdv (s.extract 4 6) = (s.size : Int) ↔ _
      omega
    simp only [e]
    split
    · unfold exB
      simp only [decide_eq_true_eq]
      by_cases a0 : bt s 6 = 0
      · simp [a0]
      by_cases a1 : bt s 6 = 43
      · simp [a1]
      by_cases a2 : bt s 6 = 44
      · simp [a2]
      by_cases a3 : bt s 6 = 50
      · simp [a3]
      by_cases a4 : bt s 6 = 51
      · simp [a4]
      by_cases a5 : bt s 6 = 60
      · simp [a5]
      simp [a0, a1, a2, a3, a4, a5]
    · rfl
theorem dcE_eq (s : ByteArray) : dcE s = rcE s := by
  unfold dcE rcE fF hFa
  by_cases h1 : (1500 : Int) < (s.size : Int)
  · simp [h1]
  by_cases h2 : s = (⟨#[]⟩ : ByteArray)
  · simp only [if_neg h1, if_pos h2]
    rfl
  by_cases h4 : sr (bt s 0) 4 = 4
  · simp [h1, h2, h4, fa4_eq s h4]
  by_cases h6 : sr (bt s 0) 4 = 6
  · simp [h1, h2, h6, fa6_eq s]
  simp [h1, h2, h4, h6]
theorem rcE_size (s : ByteArray) (h : rcE s = 0) : 20 ≤ s.size ∧ (sr (bt s 0) 4 = 6 → 40 ≤ s.size) := by
  unfold rcE at h
  split at h
  · cases h
  split at h
  · cases h
  split at h
  · rename_i h4
    unfold r4E at h
    split at h
    · cases h
    · exact ⟨by omega, fun e => by rw [h4] at e; cases e⟩
  split at h
  · unfold r6E at h
    split at h
    · cases h
    · exact ⟨by omega, fun _ => by omega⟩
  · cases h
theorem q6_eq (s : ByteArray) (h : 40 ≤ s.size) : q6H0 s = bdv (s.extract 8 16) ∧ q6L0 s = bdv (s.extract 16 24) ∧ q6H1 s = bdv (s.extract 24 32) ∧ q6L1 s = bdv (s.extract 32 40) ∧ q6D s = s.extract 40 s.size := by
  obtain ⟨a1, a2, a3⟩ := tk_at s 8 8 8 rfl (by omega)
  obtain ⟨b1, b2, b3⟩ := tk_at s 16 8 8 rfl (by omega)
  obtain ⟨c1, c2, c3⟩ := tk_at s 24 8 8 rfl (by omega)
  obtain ⟨d1, d2, d3⟩ := tk_at s 32 8 8 rfl (by omega)
  obtain ⟨e1, _, _⟩ := tk_at s 40 (s.size - 40) ((s.extract 40 s.size).size : Int) (by rw [ByteArray.size_extract]; omega) (by omega)
  rw [show 40 + (s.size - 40) = s.size by omega] at e1
  unfold q6H0 q6L0 q6H1 q6L1 q6D
  simp only [a1, a2, a3, b1, b2, b3, c1, c2, c3, d1, d2, d3, bnv_bdv]
  exact ⟨trivial, trivial, trivial, trivial, e1⟩
theorem q4_eq (s : ByteArray) (h : 20 ≤ s.size) : q4L0 s = bdv (s.extract 12 16) ∧ q4L1 s = bdv (s.extract 16 20) ∧ q4D s = s.extract 20 s.size := by
  obtain ⟨a1, a2, a3⟩ := tk_at s 12 4 4 rfl (by omega)
  obtain ⟨b1, b2, b3⟩ := tk_at s 16 4 4 rfl (by omega)
  obtain ⟨e1, _, _⟩ := tk_at s 20 (s.size - 20) ((s.extract 20 s.size).size : Int) (by rw [ByteArray.size_extract]; omega) (by omega)
  rw [show 20 + (s.size - 20) = s.size by omega] at e1
  have wr : ∀ x : Int, 0 ≤ x ∧ x < 4294967296 → cv .u64 (cv .u32 x) = x := by
    intro x hx
    unfold cv
    simp only [IntKind.wrap, IntKind.signed, IntKind.bits]
    simp
    omega
  have y1 := bdv_lt (s.extract 12 16) 4 (by decide) (by rw [ByteArray.size_extract]; omega)
  have y2 := bdv_lt (s.extract 16 20) 4 (by decide) (by rw [ByteArray.size_extract]; omega)
  unfold q4L0 q4L1 q4D
  simp only [a1, a2, a3, b1, b2, b3, bnv_bdv]
  exact ⟨wr _ y1, wr _ y2, e1⟩
theorem zI_c {e x y : Int} (h : e = 0 → x = y) : zI e x = zI e y := by
  unfold zI
  split
  · exact h (by assumption)
  · rfl
theorem zS_c {e : Int} {x y : ByteArray} (h : e = 0 → x = y) : zS e x = zS e y := by
  unfold zS
  split
  · exact h (by assumption)
  · rfl
/-- Both sides read the same. -/
theorem dec_eq (s : ByteArray) : (.tuple #[.agg (av 9 (ls [.bool (zB (dcE s) (decide ((sr (bt s 0) 4) = 6))), .int .u64 (zI (dcE s) (if (sr (bt s 0) 4) = 6 then (q6H0 s) else 0)), .int .u64 (zI (dcE s) (if (sr (bt s 0) 4) = 6 then (q6L0 s) else (q4L0 s))), .bool (zB (dcE s) (decide ((sr (bt s 0) 4) = 6))), .int .u64 (zI (dcE s) (if (sr (bt s 0) 4) = 6 then (q6H1 s) else 0)), .int .u64 (zI (dcE s) (if (sr (bt s 0) 4) = 6 then (q6L1 s) else (q4L1 s))), .int .u8 (zI (dcE s) (if (sr (bt s 0) 4) = 6 then (bt s 6) else (bt s 9))), .int .u8 (zI (dcE s) (if (sr (bt s 0) 4) = 6 then (bt s 7) else (bt s 8))), .string (zS (dcE s) (if (sr (bt s 0) 4) = 6 then (q6D s) else (q4D s)))])), .int .i64 (dcE s)] : Value) = .tuple #[.agg (av 9 (ls [.bool (zB (rcE s) (decide ((sr (bt s 0) 4) = 6))), .int .u64 (zI (rcE s) (if (sr (bt s 0) 4) = 6 then (bdv (s.extract 8 16)) else 0)), .int .u64 (zI (rcE s) (if (sr (bt s 0) 4) = 6 then (bdv (s.extract 16 24)) else (bdv (s.extract 12 16)))), .bool (zB (rcE s) (decide ((sr (bt s 0) 4) = 6))), .int .u64 (zI (rcE s) (if (sr (bt s 0) 4) = 6 then (bdv (s.extract 24 32)) else 0)), .int .u64 (zI (rcE s) (if (sr (bt s 0) 4) = 6 then (bdv (s.extract 32 40)) else (bdv (s.extract 16 20)))), .int .u8 (zI (rcE s) (if (sr (bt s 0) 4) = 6 then (bt s 6) else (bt s 9))), .int .u8 (zI (rcE s) (if (sr (bt s 0) 4) = 6 then (bt s 7) else (bt s 8))), .string (zS (rcE s) (if (sr (bt s 0) 4) = 6 then (s.extract 40 s.size) else (s.extract 20 s.size)))])), .int .i64 (rcE s)] := by
  have hz := rcE_size s
  rw [dcE_eq]
  have i6 : ∀ {α : Type} {x y z u : α}, (sr (bt s 0) 4 = 6 → x = y) → (¬ sr (bt s 0) 4 = 6 → z = u) → (if sr (bt s 0) 4 = 6 then x else z) = (if sr (bt s 0) 4 = 6 then y else u) := by
    intro α x y z u h1 h2
    split
    · exact h1 (by assumption)
    · exact h2 (by assumption)
  rw [zI_c fun h => i6 (fun h6 => (q6_eq s ((hz h).2 h6)).1) (fun _ => rfl), zI_c fun h => i6 (fun h6 => (q6_eq s ((hz h).2 h6)).2.1) (fun _ => (q4_eq s (hz h).1).1), zI_c fun h => i6 (fun h6 => (q6_eq s ((hz h).2 h6)).2.2.1) (fun _ => rfl), zI_c fun h => i6 (fun h6 => (q6_eq s ((hz h).2 h6)).2.2.2.1) (fun _ => (q4_eq s (hz h).1).2.1), zS_c fun h => i6 (fun h6 => (q6_eq s ((hz h).2 h6)).2.2.2.2) (fun _ => (q4_eq s (hz h).1).2.2)]
end Go.Proofs.YtndonmdgplojnaaGreatDoor

/- Both sides read the same: the walk of IpReads. -/
namespace Go.Proofs.YtndonmdgplojnaaGreatDoor
open Go.RowKit

set_option maxRecDepth 100000 in
set_option maxHeartbeats 4000000 in
set_option linter.unusedSimpArgs false in
theorem c_reads (s : ByteArray) (w : World) (hL : Laid w)  :
    Calls Tryz.prog 4 #[.string s] w fun r w' => r = .returned (.bool true) ∧ Below w.heap.size w w' := by
  go_enter Tryz.func4, Tryz.ntmps4
  have M := Mem.start hL
  refine wp_seq ?_
  refine rg_lit ?_
  refine pl_val (want_no rfl) (some 2) rfl (.bool false) (fun _ => by kernel_rfl) ?_
  refine pl_nil ?_
  refine au_then ?_
  refine wp_seq ?_
  refine wp_seq ?_
  refine rg_lit ?_
  refine pl_val (want_no rfl) (some 7) rfl (.string s) (fun _ => by kernel_rfl) ?_
  refine pl_val (want_no rfl) (some 8) rfl (.int .i64 (s.size : Int)) (fun _ => by kernel_rfl) ?_
  by_cases c0 : 8192 < (s.size : Int)
  · skip
    refine pl_val (want_no rfl) (some 9) rfl (.bool true) (fun w => Eq.trans (b := .ok (.value (.bool (decide (8192 < (s.size : Int))))) w) (by kernel_rfl) (by rw [decide_eq_true (c0)])) ?_
    refine pl_nil ?_
    refine au_then ?_
    refine wp_cond_true (by kernel_rfl) ?_
    refine wp_seq ?_
    refine rg_lit ?_
    refine pl_call M (want_no rfl) (some 10) rfl 9 #[] (.bool true) (fun _ => by kernel_rfl) (fun w M => c_works w M.laid) ?_
    intro u1 M
    refine pl_val (want_no rfl) (some 2) rfl (.bool true) (fun _ => by kernel_rfl) ?_
    refine pl_nil ?_
    refine au_then ?_
    refine wp_ret ?_
    refine au_then_ret ?_
    exact bodyPost_ret (v := .bool true) (results_tmp1 Tryz.results4 _ _ _ (by kernel_rfl)) (by kernel_rfl) ⟨rfl, below_grown M.old⟩
  · skip
    refine pl_val (want_no rfl) (some 9) rfl (.bool false) (fun w => Eq.trans (b := .ok (.value (.bool (decide (8192 < (s.size : Int))))) w) (by kernel_rfl) (by rw [decide_eq_false (c0)])) ?_
    refine pl_nil ?_
    refine au_then ?_
    refine wp_cond_false (by kernel_rfl) ?_
    refine wp_skip ?_
    refine au_then ?_
    refine wp_seq ?_
    refine rg_lit ?_
    refine pl_val (want_no rfl) (some 12) rfl (.string s) (fun _ => by kernel_rfl) ?_
    refine pl_call M (want_no rfl) (some 13) rfl 16 #[.string s] (.tuple #[.agg (av 9 (ls [.bool (zB (rcE s) (decide ((sr (bt s 0) 4) = 6))), .int .u64 (zI (rcE s) (if (sr (bt s 0) 4) = 6 then (bdv (s.extract 8 16)) else 0)), .int .u64 (zI (rcE s) (if (sr (bt s 0) 4) = 6 then (bdv (s.extract 16 24)) else (bdv (s.extract 12 16)))), .bool (zB (rcE s) (decide ((sr (bt s 0) 4) = 6))), .int .u64 (zI (rcE s) (if (sr (bt s 0) 4) = 6 then (bdv (s.extract 24 32)) else 0)), .int .u64 (zI (rcE s) (if (sr (bt s 0) 4) = 6 then (bdv (s.extract 32 40)) else (bdv (s.extract 16 20)))), .int .u8 (zI (rcE s) (if (sr (bt s 0) 4) = 6 then (bt s 6) else (bt s 9))), .int .u8 (zI (rcE s) (if (sr (bt s 0) 4) = 6 then (bt s 7) else (bt s 8))), .string (zS (rcE s) (if (sr (bt s 0) 4) = 6 then (s.extract 40 s.size) else (s.extract 20 s.size)))])), .int .i64 (rcE s)]) (fun _ => by kernel_rfl) (fun w M => call_val (c_Decode s (by omega) w M.laid) (dec_eq s)) ?_
    intro u1 M
    refine pl_val (want_no rfl) (some 11) rfl (.tuple #[.agg (av 9 (ls [.bool (zB (rcE s) (decide ((sr (bt s 0) 4) = 6))), .int .u64 (zI (rcE s) (if (sr (bt s 0) 4) = 6 then (bdv (s.extract 8 16)) else 0)), .int .u64 (zI (rcE s) (if (sr (bt s 0) 4) = 6 then (bdv (s.extract 16 24)) else (bdv (s.extract 12 16)))), .bool (zB (rcE s) (decide ((sr (bt s 0) 4) = 6))), .int .u64 (zI (rcE s) (if (sr (bt s 0) 4) = 6 then (bdv (s.extract 24 32)) else 0)), .int .u64 (zI (rcE s) (if (sr (bt s 0) 4) = 6 then (bdv (s.extract 32 40)) else (bdv (s.extract 16 20)))), .int .u8 (zI (rcE s) (if (sr (bt s 0) 4) = 6 then (bt s 6) else (bt s 9))), .int .u8 (zI (rcE s) (if (sr (bt s 0) 4) = 6 then (bt s 7) else (bt s 8))), .string (zS (rcE s) (if (sr (bt s 0) 4) = 6 then (s.extract 40 s.size) else (s.extract 20 s.size)))])), .int .i64 (rcE s)]) (fun _ => by kernel_rfl) ?_
    refine pl_val (want_no rfl) (some 14) rfl (.agg (av 9 (ls [.bool (zB (rcE s) (decide ((sr (bt s 0) 4) = 6))), .int .u64 (zI (rcE s) (if (sr (bt s 0) 4) = 6 then (bdv (s.extract 8 16)) else 0)), .int .u64 (zI (rcE s) (if (sr (bt s 0) 4) = 6 then (bdv (s.extract 16 24)) else (bdv (s.extract 12 16)))), .bool (zB (rcE s) (decide ((sr (bt s 0) 4) = 6))), .int .u64 (zI (rcE s) (if (sr (bt s 0) 4) = 6 then (bdv (s.extract 24 32)) else 0)), .int .u64 (zI (rcE s) (if (sr (bt s 0) 4) = 6 then (bdv (s.extract 32 40)) else (bdv (s.extract 16 20)))), .int .u8 (zI (rcE s) (if (sr (bt s 0) 4) = 6 then (bt s 6) else (bt s 9))), .int .u8 (zI (rcE s) (if (sr (bt s 0) 4) = 6 then (bt s 7) else (bt s 8))), .string (zS (rcE s) (if (sr (bt s 0) 4) = 6 then (s.extract 40 s.size) else (s.extract 20 s.size)))]))) (fun _ => by kernel_rfl) ?_
    refine pl_val (want_no rfl) (some 15) rfl (.int .i64 (rcE s)) (fun _ => by kernel_rfl) ?_
    refine pl_new M (want_no rfl) (some 3) rfl (.cells (av 9 (ls [.bool false, .int .u64 0, .int .u64 0, .bool false, .int .u64 0, .int .u64 0, .int .u8 0, .int .u8 0, .string ⟨#[]⟩])) 26) (fun _ => by kernel_rfl) ?_
    intro g1 u2 M
    replace M : Mem ⟨w, []⟩ [⟨g1, .cells (av 9 (ls [.bool false, .int .u64 0, .int .u64 0, .bool false, .int .u64 0, .int .u64 0, .int .u8 0, .int .u8 0, .string ⟨#[]⟩])) 26⟩] u2 := M
    refine pl_put M (want_no rfl) rfl 26 _ _ rfl 0 g1 0 (by kernel_rfl) 9 26 (ls [.bool false, .int .u64 0, .int .u64 0, .bool false, .int .u64 0, .int .u64 0, .int .u8 0, .int .u8 0, .string ⟨#[]⟩]) rfl 9 (ls [.bool (zB (rcE s) (decide ((sr (bt s 0) 4) = 6))), .int .u64 (zI (rcE s) (if (sr (bt s 0) 4) = 6 then (bdv (s.extract 8 16)) else 0)), .int .u64 (zI (rcE s) (if (sr (bt s 0) 4) = 6 then (bdv (s.extract 16 24)) else (bdv (s.extract 12 16)))), .bool (zB (rcE s) (decide ((sr (bt s 0) 4) = 6))), .int .u64 (zI (rcE s) (if (sr (bt s 0) 4) = 6 then (bdv (s.extract 24 32)) else 0)), .int .u64 (zI (rcE s) (if (sr (bt s 0) 4) = 6 then (bdv (s.extract 32 40)) else (bdv (s.extract 16 20)))), .int .u8 (zI (rcE s) (if (sr (bt s 0) 4) = 6 then (bt s 6) else (bt s 9))), .int .u8 (zI (rcE s) (if (sr (bt s 0) 4) = 6 then (bt s 7) else (bt s 8))), .string (zS (rcE s) (if (sr (bt s 0) 4) = 6 then (s.extract 40 s.size) else (s.extract 20 s.size)))]) (ls [.bool (zB (rcE s) (decide ((sr (bt s 0) 4) = 6))), .int .u64 (zI (rcE s) (if (sr (bt s 0) 4) = 6 then (bdv (s.extract 8 16)) else 0)), .int .u64 (zI (rcE s) (if (sr (bt s 0) 4) = 6 then (bdv (s.extract 16 24)) else (bdv (s.extract 12 16)))), .bool (zB (rcE s) (decide ((sr (bt s 0) 4) = 6))), .int .u64 (zI (rcE s) (if (sr (bt s 0) 4) = 6 then (bdv (s.extract 24 32)) else 0)), .int .u64 (zI (rcE s) (if (sr (bt s 0) 4) = 6 then (bdv (s.extract 32 40)) else (bdv (s.extract 16 20)))), .int .u8 (zI (rcE s) (if (sr (bt s 0) 4) = 6 then (bt s 6) else (bt s 9))), .int .u8 (zI (rcE s) (if (sr (bt s 0) 4) = 6 then (bt s 7) else (bt s 8))), .string (zS (rcE s) (if (sr (bt s 0) 4) = 6 then (s.extract 40 s.size) else (s.extract 20 s.size)))]) (by kernel_rfl) inz26 (by decide) (one_ls _ rfl) (fun j hj => by rw [if_pos (by omega), Nat.sub_zero]) ?_
    intro u3 M
    replace M : Mem ⟨w, []⟩ [⟨g1, .cells (av 9 (ls [.bool (zB (rcE s) (decide ((sr (bt s 0) 4) = 6))), .int .u64 (zI (rcE s) (if (sr (bt s 0) 4) = 6 then (bdv (s.extract 8 16)) else 0)), .int .u64 (zI (rcE s) (if (sr (bt s 0) 4) = 6 then (bdv (s.extract 16 24)) else (bdv (s.extract 12 16)))), .bool (zB (rcE s) (decide ((sr (bt s 0) 4) = 6))), .int .u64 (zI (rcE s) (if (sr (bt s 0) 4) = 6 then (bdv (s.extract 24 32)) else 0)), .int .u64 (zI (rcE s) (if (sr (bt s 0) 4) = 6 then (bdv (s.extract 32 40)) else (bdv (s.extract 16 20)))), .int .u8 (zI (rcE s) (if (sr (bt s 0) 4) = 6 then (bt s 6) else (bt s 9))), .int .u8 (zI (rcE s) (if (sr (bt s 0) 4) = 6 then (bt s 7) else (bt s 8))), .string (zS (rcE s) (if (sr (bt s 0) 4) = 6 then (s.extract 40 s.size) else (s.extract 20 s.size)))])) 26⟩] u3 := M
    refine pl_val (want_no rfl) (some 4) rfl (.int .i64 (rcE s)) (fun _ => by kernel_rfl) ?_
    refine pl_nil ?_
    refine au_then ?_
    refine wp_seq ?_
    refine rg_lit ?_
    refine pl_val (want_no rfl) (some 17) rfl (.string s) (fun _ => by kernel_rfl) ?_
    refine pl_call M (want_no rfl) (some 18) rfl 17 #[.string s] (.tuple #[.agg (av 9 (ls [.bool (zB (rcE s) (decide ((sr (bt s 0) 4) = 6))), .int .u64 (zI (rcE s) (if (sr (bt s 0) 4) = 6 then (bdv (s.extract 8 16)) else 0)), .int .u64 (zI (rcE s) (if (sr (bt s 0) 4) = 6 then (bdv (s.extract 16 24)) else (bdv (s.extract 12 16)))), .bool (zB (rcE s) (decide ((sr (bt s 0) 4) = 6))), .int .u64 (zI (rcE s) (if (sr (bt s 0) 4) = 6 then (bdv (s.extract 24 32)) else 0)), .int .u64 (zI (rcE s) (if (sr (bt s 0) 4) = 6 then (bdv (s.extract 32 40)) else (bdv (s.extract 16 20)))), .int .u8 (zI (rcE s) (if (sr (bt s 0) 4) = 6 then (bt s 6) else (bt s 9))), .int .u8 (zI (rcE s) (if (sr (bt s 0) 4) = 6 then (bt s 7) else (bt s 8))), .string (zS (rcE s) (if (sr (bt s 0) 4) = 6 then (s.extract 40 s.size) else (s.extract 20 s.size)))])), .int .i64 (rcE s)]) (fun _ => by kernel_rfl) (fun w M => d_Decode s (by omega) w M.laid) ?_
    intro u4 M
    refine pl_val (want_no rfl) (some 16) rfl (.tuple #[.agg (av 9 (ls [.bool (zB (rcE s) (decide ((sr (bt s 0) 4) = 6))), .int .u64 (zI (rcE s) (if (sr (bt s 0) 4) = 6 then (bdv (s.extract 8 16)) else 0)), .int .u64 (zI (rcE s) (if (sr (bt s 0) 4) = 6 then (bdv (s.extract 16 24)) else (bdv (s.extract 12 16)))), .bool (zB (rcE s) (decide ((sr (bt s 0) 4) = 6))), .int .u64 (zI (rcE s) (if (sr (bt s 0) 4) = 6 then (bdv (s.extract 24 32)) else 0)), .int .u64 (zI (rcE s) (if (sr (bt s 0) 4) = 6 then (bdv (s.extract 32 40)) else (bdv (s.extract 16 20)))), .int .u8 (zI (rcE s) (if (sr (bt s 0) 4) = 6 then (bt s 6) else (bt s 9))), .int .u8 (zI (rcE s) (if (sr (bt s 0) 4) = 6 then (bt s 7) else (bt s 8))), .string (zS (rcE s) (if (sr (bt s 0) 4) = 6 then (s.extract 40 s.size) else (s.extract 20 s.size)))])), .int .i64 (rcE s)]) (fun _ => by kernel_rfl) ?_
    refine pl_val (want_no rfl) (some 19) rfl (.agg (av 9 (ls [.bool (zB (rcE s) (decide ((sr (bt s 0) 4) = 6))), .int .u64 (zI (rcE s) (if (sr (bt s 0) 4) = 6 then (bdv (s.extract 8 16)) else 0)), .int .u64 (zI (rcE s) (if (sr (bt s 0) 4) = 6 then (bdv (s.extract 16 24)) else (bdv (s.extract 12 16)))), .bool (zB (rcE s) (decide ((sr (bt s 0) 4) = 6))), .int .u64 (zI (rcE s) (if (sr (bt s 0) 4) = 6 then (bdv (s.extract 24 32)) else 0)), .int .u64 (zI (rcE s) (if (sr (bt s 0) 4) = 6 then (bdv (s.extract 32 40)) else (bdv (s.extract 16 20)))), .int .u8 (zI (rcE s) (if (sr (bt s 0) 4) = 6 then (bt s 6) else (bt s 9))), .int .u8 (zI (rcE s) (if (sr (bt s 0) 4) = 6 then (bt s 7) else (bt s 8))), .string (zS (rcE s) (if (sr (bt s 0) 4) = 6 then (s.extract 40 s.size) else (s.extract 20 s.size)))]))) (fun _ => by kernel_rfl) ?_
    refine pl_val (want_no rfl) (some 20) rfl (.int .i64 (rcE s)) (fun _ => by kernel_rfl) ?_
    refine pl_new M (want_no rfl) (some 5) rfl (.cells (av 9 (ls [.bool false, .int .u64 0, .int .u64 0, .bool false, .int .u64 0, .int .u64 0, .int .u8 0, .int .u8 0, .string ⟨#[]⟩])) 26) (fun _ => by kernel_rfl) ?_
    intro g2 u5 M
    replace M : Mem ⟨w, []⟩ [⟨g1, .cells (av 9 (ls [.bool (zB (rcE s) (decide ((sr (bt s 0) 4) = 6))), .int .u64 (zI (rcE s) (if (sr (bt s 0) 4) = 6 then (bdv (s.extract 8 16)) else 0)), .int .u64 (zI (rcE s) (if (sr (bt s 0) 4) = 6 then (bdv (s.extract 16 24)) else (bdv (s.extract 12 16)))), .bool (zB (rcE s) (decide ((sr (bt s 0) 4) = 6))), .int .u64 (zI (rcE s) (if (sr (bt s 0) 4) = 6 then (bdv (s.extract 24 32)) else 0)), .int .u64 (zI (rcE s) (if (sr (bt s 0) 4) = 6 then (bdv (s.extract 32 40)) else (bdv (s.extract 16 20)))), .int .u8 (zI (rcE s) (if (sr (bt s 0) 4) = 6 then (bt s 6) else (bt s 9))), .int .u8 (zI (rcE s) (if (sr (bt s 0) 4) = 6 then (bt s 7) else (bt s 8))), .string (zS (rcE s) (if (sr (bt s 0) 4) = 6 then (s.extract 40 s.size) else (s.extract 20 s.size)))])) 26⟩, ⟨g2, .cells (av 9 (ls [.bool false, .int .u64 0, .int .u64 0, .bool false, .int .u64 0, .int .u64 0, .int .u8 0, .int .u8 0, .string ⟨#[]⟩])) 26⟩] u5 := M
    refine pl_put M (want_no rfl) rfl 26 _ _ rfl 1 g2 0 (by kernel_rfl) 9 26 (ls [.bool false, .int .u64 0, .int .u64 0, .bool false, .int .u64 0, .int .u64 0, .int .u8 0, .int .u8 0, .string ⟨#[]⟩]) rfl 9 (ls [.bool (zB (rcE s) (decide ((sr (bt s 0) 4) = 6))), .int .u64 (zI (rcE s) (if (sr (bt s 0) 4) = 6 then (bdv (s.extract 8 16)) else 0)), .int .u64 (zI (rcE s) (if (sr (bt s 0) 4) = 6 then (bdv (s.extract 16 24)) else (bdv (s.extract 12 16)))), .bool (zB (rcE s) (decide ((sr (bt s 0) 4) = 6))), .int .u64 (zI (rcE s) (if (sr (bt s 0) 4) = 6 then (bdv (s.extract 24 32)) else 0)), .int .u64 (zI (rcE s) (if (sr (bt s 0) 4) = 6 then (bdv (s.extract 32 40)) else (bdv (s.extract 16 20)))), .int .u8 (zI (rcE s) (if (sr (bt s 0) 4) = 6 then (bt s 6) else (bt s 9))), .int .u8 (zI (rcE s) (if (sr (bt s 0) 4) = 6 then (bt s 7) else (bt s 8))), .string (zS (rcE s) (if (sr (bt s 0) 4) = 6 then (s.extract 40 s.size) else (s.extract 20 s.size)))]) (ls [.bool (zB (rcE s) (decide ((sr (bt s 0) 4) = 6))), .int .u64 (zI (rcE s) (if (sr (bt s 0) 4) = 6 then (bdv (s.extract 8 16)) else 0)), .int .u64 (zI (rcE s) (if (sr (bt s 0) 4) = 6 then (bdv (s.extract 16 24)) else (bdv (s.extract 12 16)))), .bool (zB (rcE s) (decide ((sr (bt s 0) 4) = 6))), .int .u64 (zI (rcE s) (if (sr (bt s 0) 4) = 6 then (bdv (s.extract 24 32)) else 0)), .int .u64 (zI (rcE s) (if (sr (bt s 0) 4) = 6 then (bdv (s.extract 32 40)) else (bdv (s.extract 16 20)))), .int .u8 (zI (rcE s) (if (sr (bt s 0) 4) = 6 then (bt s 6) else (bt s 9))), .int .u8 (zI (rcE s) (if (sr (bt s 0) 4) = 6 then (bt s 7) else (bt s 8))), .string (zS (rcE s) (if (sr (bt s 0) 4) = 6 then (s.extract 40 s.size) else (s.extract 20 s.size)))]) (by kernel_rfl) inz26 (by decide) (one_ls _ rfl) (fun j hj => by rw [if_pos (by omega), Nat.sub_zero]) ?_
    intro u6 M
    replace M : Mem ⟨w, []⟩ [⟨g1, .cells (av 9 (ls [.bool (zB (rcE s) (decide ((sr (bt s 0) 4) = 6))), .int .u64 (zI (rcE s) (if (sr (bt s 0) 4) = 6 then (bdv (s.extract 8 16)) else 0)), .int .u64 (zI (rcE s) (if (sr (bt s 0) 4) = 6 then (bdv (s.extract 16 24)) else (bdv (s.extract 12 16)))), .bool (zB (rcE s) (decide ((sr (bt s 0) 4) = 6))), .int .u64 (zI (rcE s) (if (sr (bt s 0) 4) = 6 then (bdv (s.extract 24 32)) else 0)), .int .u64 (zI (rcE s) (if (sr (bt s 0) 4) = 6 then (bdv (s.extract 32 40)) else (bdv (s.extract 16 20)))), .int .u8 (zI (rcE s) (if (sr (bt s 0) 4) = 6 then (bt s 6) else (bt s 9))), .int .u8 (zI (rcE s) (if (sr (bt s 0) 4) = 6 then (bt s 7) else (bt s 8))), .string (zS (rcE s) (if (sr (bt s 0) 4) = 6 then (s.extract 40 s.size) else (s.extract 20 s.size)))])) 26⟩, ⟨g2, .cells (av 9 (ls [.bool (zB (rcE s) (decide ((sr (bt s 0) 4) = 6))), .int .u64 (zI (rcE s) (if (sr (bt s 0) 4) = 6 then (bdv (s.extract 8 16)) else 0)), .int .u64 (zI (rcE s) (if (sr (bt s 0) 4) = 6 then (bdv (s.extract 16 24)) else (bdv (s.extract 12 16)))), .bool (zB (rcE s) (decide ((sr (bt s 0) 4) = 6))), .int .u64 (zI (rcE s) (if (sr (bt s 0) 4) = 6 then (bdv (s.extract 24 32)) else 0)), .int .u64 (zI (rcE s) (if (sr (bt s 0) 4) = 6 then (bdv (s.extract 32 40)) else (bdv (s.extract 16 20)))), .int .u8 (zI (rcE s) (if (sr (bt s 0) 4) = 6 then (bt s 6) else (bt s 9))), .int .u8 (zI (rcE s) (if (sr (bt s 0) 4) = 6 then (bt s 7) else (bt s 8))), .string (zS (rcE s) (if (sr (bt s 0) 4) = 6 then (s.extract 40 s.size) else (s.extract 20 s.size)))])) 26⟩] u6 := M
    refine pl_val (want_no rfl) (some 6) rfl (.int .i64 (rcE s)) (fun _ => by kernel_rfl) ?_
    refine pl_nil ?_
    refine au_then ?_
    refine wp_seq ?_
    refine rg_lit ?_
    refine pl_load M (want_no rfl) (some 21) rfl 26 _ rfl 0 g1 0 (by kernel_rfl) 9 26 (ls [.bool (zB (rcE s) (decide ((sr (bt s 0) 4) = 6))), .int .u64 (zI (rcE s) (if (sr (bt s 0) 4) = 6 then (bdv (s.extract 8 16)) else 0)), .int .u64 (zI (rcE s) (if (sr (bt s 0) 4) = 6 then (bdv (s.extract 16 24)) else (bdv (s.extract 12 16)))), .bool (zB (rcE s) (decide ((sr (bt s 0) 4) = 6))), .int .u64 (zI (rcE s) (if (sr (bt s 0) 4) = 6 then (bdv (s.extract 24 32)) else 0)), .int .u64 (zI (rcE s) (if (sr (bt s 0) 4) = 6 then (bdv (s.extract 32 40)) else (bdv (s.extract 16 20)))), .int .u8 (zI (rcE s) (if (sr (bt s 0) 4) = 6 then (bt s 6) else (bt s 9))), .int .u8 (zI (rcE s) (if (sr (bt s 0) 4) = 6 then (bt s 7) else (bt s 8))), .string (zS (rcE s) (if (sr (bt s 0) 4) = 6 then (s.extract 40 s.size) else (s.extract 20 s.size)))]) rfl 9 (ls [.bool (zB (rcE s) (decide ((sr (bt s 0) 4) = 6))), .int .u64 (zI (rcE s) (if (sr (bt s 0) 4) = 6 then (bdv (s.extract 8 16)) else 0)), .int .u64 (zI (rcE s) (if (sr (bt s 0) 4) = 6 then (bdv (s.extract 16 24)) else (bdv (s.extract 12 16)))), .bool (zB (rcE s) (decide ((sr (bt s 0) 4) = 6))), .int .u64 (zI (rcE s) (if (sr (bt s 0) 4) = 6 then (bdv (s.extract 24 32)) else 0)), .int .u64 (zI (rcE s) (if (sr (bt s 0) 4) = 6 then (bdv (s.extract 32 40)) else (bdv (s.extract 16 20)))), .int .u8 (zI (rcE s) (if (sr (bt s 0) 4) = 6 then (bt s 6) else (bt s 9))), .int .u8 (zI (rcE s) (if (sr (bt s 0) 4) = 6 then (bt s 7) else (bt s 8))), .string (zS (rcE s) (if (sr (bt s 0) 4) = 6 then (s.extract 40 s.size) else (s.extract 20 s.size)))]) (fun j _ => by rw [Nat.zero_add]) (by decide) _ Tryz.underlying26 rfl inz26 ?_
    refine pl_load M (want_no rfl) (some 22) rfl 26 _ rfl 1 g2 0 (by kernel_rfl) 9 26 (ls [.bool (zB (rcE s) (decide ((sr (bt s 0) 4) = 6))), .int .u64 (zI (rcE s) (if (sr (bt s 0) 4) = 6 then (bdv (s.extract 8 16)) else 0)), .int .u64 (zI (rcE s) (if (sr (bt s 0) 4) = 6 then (bdv (s.extract 16 24)) else (bdv (s.extract 12 16)))), .bool (zB (rcE s) (decide ((sr (bt s 0) 4) = 6))), .int .u64 (zI (rcE s) (if (sr (bt s 0) 4) = 6 then (bdv (s.extract 24 32)) else 0)), .int .u64 (zI (rcE s) (if (sr (bt s 0) 4) = 6 then (bdv (s.extract 32 40)) else (bdv (s.extract 16 20)))), .int .u8 (zI (rcE s) (if (sr (bt s 0) 4) = 6 then (bt s 6) else (bt s 9))), .int .u8 (zI (rcE s) (if (sr (bt s 0) 4) = 6 then (bt s 7) else (bt s 8))), .string (zS (rcE s) (if (sr (bt s 0) 4) = 6 then (s.extract 40 s.size) else (s.extract 20 s.size)))]) rfl 9 (ls [.bool (zB (rcE s) (decide ((sr (bt s 0) 4) = 6))), .int .u64 (zI (rcE s) (if (sr (bt s 0) 4) = 6 then (bdv (s.extract 8 16)) else 0)), .int .u64 (zI (rcE s) (if (sr (bt s 0) 4) = 6 then (bdv (s.extract 16 24)) else (bdv (s.extract 12 16)))), .bool (zB (rcE s) (decide ((sr (bt s 0) 4) = 6))), .int .u64 (zI (rcE s) (if (sr (bt s 0) 4) = 6 then (bdv (s.extract 24 32)) else 0)), .int .u64 (zI (rcE s) (if (sr (bt s 0) 4) = 6 then (bdv (s.extract 32 40)) else (bdv (s.extract 16 20)))), .int .u8 (zI (rcE s) (if (sr (bt s 0) 4) = 6 then (bt s 6) else (bt s 9))), .int .u8 (zI (rcE s) (if (sr (bt s 0) 4) = 6 then (bt s 7) else (bt s 8))), .string (zS (rcE s) (if (sr (bt s 0) 4) = 6 then (s.extract 40 s.size) else (s.extract 20 s.size)))]) (fun j _ => by rw [Nat.zero_add]) (by decide) _ Tryz.underlying26 rfl inz26 ?_
    refine pl_val (want_no rfl) (some 23) rfl (.bool true) (fun w => (eql26 (zB (rcE s) (decide ((sr (bt s 0) 4) = 6))) (zB (rcE s) (decide ((sr (bt s 0) 4) = 6))) (zI (rcE s) (if (sr (bt s 0) 4) = 6 then (bdv (s.extract 8 16)) else 0)) (zI (rcE s) (if (sr (bt s 0) 4) = 6 then (bdv (s.extract 8 16)) else 0)) (zI (rcE s) (if (sr (bt s 0) 4) = 6 then (bdv (s.extract 16 24)) else (bdv (s.extract 12 16)))) (zI (rcE s) (if (sr (bt s 0) 4) = 6 then (bdv (s.extract 16 24)) else (bdv (s.extract 12 16)))) (zB (rcE s) (decide ((sr (bt s 0) 4) = 6))) (zB (rcE s) (decide ((sr (bt s 0) 4) = 6))) (zI (rcE s) (if (sr (bt s 0) 4) = 6 then (bdv (s.extract 24 32)) else 0)) (zI (rcE s) (if (sr (bt s 0) 4) = 6 then (bdv (s.extract 24 32)) else 0)) (zI (rcE s) (if (sr (bt s 0) 4) = 6 then (bdv (s.extract 32 40)) else (bdv (s.extract 16 20)))) (zI (rcE s) (if (sr (bt s 0) 4) = 6 then (bdv (s.extract 32 40)) else (bdv (s.extract 16 20)))) (zI (rcE s) (if (sr (bt s 0) 4) = 6 then (bt s 6) else (bt s 9))) (zI (rcE s) (if (sr (bt s 0) 4) = 6 then (bt s 6) else (bt s 9))) (zI (rcE s) (if (sr (bt s 0) 4) = 6 then (bt s 7) else (bt s 8))) (zI (rcE s) (if (sr (bt s 0) 4) = 6 then (bt s 7) else (bt s 8))) (zS (rcE s) (if (sr (bt s 0) 4) = 6 then (s.extract 40 s.size) else (s.extract 20 s.size))) (zS (rcE s) (if (sr (bt s 0) 4) = 6 then (s.extract 40 s.size) else (s.extract 20 s.size))) _ _ rfl (by kernel_rfl) (by kernel_rfl) w).trans (by rw [decide_eq_true (⟨rfl, rfl, rfl, rfl, rfl, rfl, rfl, rfl, rfl⟩ : zB (rcE s) (decide ((sr (bt s 0) 4) = 6)) = zB (rcE s) (decide ((sr (bt s 0) 4) = 6)) ∧ (zI (rcE s) (if (sr (bt s 0) 4) = 6 then (bdv (s.extract 8 16)) else 0)) = (zI (rcE s) (if (sr (bt s 0) 4) = 6 then (bdv (s.extract 8 16)) else 0)) ∧ (zI (rcE s) (if (sr (bt s 0) 4) = 6 then (bdv (s.extract 16 24)) else (bdv (s.extract 12 16)))) = (zI (rcE s) (if (sr (bt s 0) 4) = 6 then (bdv (s.extract 16 24)) else (bdv (s.extract 12 16)))) ∧ zB (rcE s) (decide ((sr (bt s 0) 4) = 6)) = zB (rcE s) (decide ((sr (bt s 0) 4) = 6)) ∧ (zI (rcE s) (if (sr (bt s 0) 4) = 6 then (bdv (s.extract 24 32)) else 0)) = (zI (rcE s) (if (sr (bt s 0) 4) = 6 then (bdv (s.extract 24 32)) else 0)) ∧ (zI (rcE s) (if (sr (bt s 0) 4) = 6 then (bdv (s.extract 32 40)) else (bdv (s.extract 16 20)))) = (zI (rcE s) (if (sr (bt s 0) 4) = 6 then (bdv (s.extract 32 40)) else (bdv (s.extract 16 20)))) ∧ (zI (rcE s) (if (sr (bt s 0) 4) = 6 then (bt s 6) else (bt s 9))) = (zI (rcE s) (if (sr (bt s 0) 4) = 6 then (bt s 6) else (bt s 9))) ∧ (zI (rcE s) (if (sr (bt s 0) 4) = 6 then (bt s 7) else (bt s 8))) = (zI (rcE s) (if (sr (bt s 0) 4) = 6 then (bt s 7) else (bt s 8))) ∧ (zS (rcE s) (if (sr (bt s 0) 4) = 6 then (s.extract 40 s.size) else (s.extract 20 s.size))) = (zS (rcE s) (if (sr (bt s 0) 4) = 6 then (s.extract 40 s.size) else (s.extract 20 s.size))))])) ?_
    refine pl_val (want_no rfl) (some 24) rfl (.bool true) (fun _ => by kernel_rfl) ?_
    refine pl_val (want_on 3 true rfl 24 rfl (by kernel_rfl)) (some 25) rfl (.int .i64 (rcE s)) (fun _ => by kernel_rfl) ?_
    refine pl_val (want_on 3 true rfl 24 rfl (by kernel_rfl)) (some 26) rfl (.int .i64 (rcE s)) (fun _ => by kernel_rfl) ?_
    refine pl_val (want_on 3 true rfl 24 rfl (by kernel_rfl)) (some 27) rfl (.bool true) (fun w => Eq.trans (b := .ok (.value (.bool (decide ((rcE s) = (rcE s))))) w) (by kernel_rfl) (by rw [decide_eq_true (by omega)])) ?_
    refine pl_val (want_no rfl) (some 28) rfl (.bool true) (fun _ => by kernel_rfl) ?_
    refine pl_val (want_no rfl) (some 29) rfl (.bool true) (fun _ => by kernel_rfl) ?_
    refine pl_call M (want_on 8 true rfl 29 rfl (by kernel_rfl)) (some 30) rfl 9 #[] (.bool true) (fun _ => by kernel_rfl) (fun w M => c_works w M.laid) ?_
    intro u7 M
    refine pl_val (want_no rfl) (some 31) rfl (.bool true) (fun _ => by kernel_rfl) ?_
    refine pl_val (want_no rfl) (some 2) rfl (.bool true) (fun _ => by kernel_rfl) ?_
    refine pl_nil ?_
    refine au_then ?_
    refine wp_ret ?_
    exact bodyPost_ret (v := .bool true) (results_tmp1 Tryz.results4 _ _ _ (by kernel_rfl)) (by kernel_rfl) ⟨rfl, below_grown M.old⟩


end Go.Proofs.YtndonmdgplojnaaGreatDoor

/- The package variables: what the conditions give a walk; a world that meets them; arguments of each type, opened. -/
namespace Go.Proofs.YtndonmdgplojnaaGreatDoor
open Go.RowKit
set_option maxRecDepth 100000

def lay7 : List (String × DataW Unit) := [("math/bits.deBruijn32tab", Rows.laid_math_bits_deBruijn32tab), ("math/bits.deBruijn64tab", Rows.laid_math_bits_deBruijn64tab), ("internal/strconv.uint64pow10", Rows.laid_internal_strconv_uint64pow10), ("unicode/utf8.acceptRanges", Rows.laid_unicode_utf8_acceptRanges), ("strconv.ErrRange", Rows.laid_strconv_ErrRange), ("strconv.ErrSyntax", Rows.laid_strconv_ErrSyntax), ("unicode/utf8.first", Rows.laid_unicode_utf8_first)]
def db64 : List Int := [0, 1, 56, 2, 57, 49, 28, 3, 61, 58, 42, 50, 38, 29, 17, 4, 62, 47, 59, 36, 45, 43, 51, 22, 53, 39, 33, 30, 24, 18, 12, 5, 63, 55, 48, 27, 60, 41, 37, 16, 46, 35, 44, 21, 52, 32, 23, 11, 54, 26, 40, 15, 34, 20, 31, 10, 25, 14, 19, 9, 13, 8, 7, 6]
theorem tab_of {W : World} {name : String} {k : IntKind} {zs : List Int} {g : Nat} {t e : TypeId} {n : Nat} {d : DataW Unit} (hd : d = Lib.tabData k zs) (hg : Tryz.prog.globalNamed name = some g) (hty : (Tryz.prog.globals[g]?).map (·.type) = some t) (ht : Tryz.prog.underlying t = some (.array n e)) (he : Tryz.prog.underlying e = some (.int k)) (hce : Tryz.prog.cellsOf e = 1) (hct : Tryz.prog.cellsOf t = n)
    {g' : Nat} {t' : TypeId} {cs : Array Value} {fuel : Nat} {p : List MemPlace} (hg' : Tryz.prog.globalNamed name = some g') (ht' : (Tryz.prog.globals[g']?).map (·.type) = some t') (hv : W.var? Tryz.prog name = some cs) (h : DataW.trod (fun _ => ()) Tryz.prog W 0 (fun _ => true) false fuel t' cs.toList = some (d, p)) : Lib.TabIs Tryz.prog W name k zs := by
  subst hd
  obtain rfl := Option.some.inj (hg.symm.trans hg')
  obtain rfl := Option.some.inj (hty.symm.trans ht')
  unfold Lib.TabIs
  rw [hv, ← Lib.cells_of_tab ht he hce hct h]
theorem err_of {W : World} {name : String} {g : Nat} {nm : String} {d : DataW Unit} (hg : Tryz.prog.globalNamed name = some g) (hty : (Tryz.prog.globals[g]?).map (·.type) = some 90)
    {g' : Nat} {t' : TypeId} {cs : Array Value} {fuel : Nat} {p : List MemPlace} (hg' : Tryz.prog.globalNamed name = some g') (ht' : (Tryz.prog.globals[g']?).map (·.type) = some t') (hv : W.var? Tryz.prog name = some cs) (h : DataW.trod (fun _ => ()) Tryz.prog W 0 (fun _ => true) false fuel t' cs.toList = some (.iface nm d, p)) : ∃ t p, W.cell? ⟨g, 0, none⟩ = some (.iface t p) := by
  obtain rfl := Option.some.inj (hg.symm.trans hg')
  obtain rfl := Option.some.inj (hty.symm.trans ht')
  obtain ⟨_, u, v, hc, _⟩ := iface_of_trod Tryz.underlying90 h
  refine ⟨u, v, ?_⟩
  rw [World.var?_cell hg hv 0, ← Array.getElem?_toList, hc]
  rfl
theorem var_lt {W : World} {name : String} {g : Nat} {cs : Array Value} (hg : Tryz.prog.globalNamed name = some g) (hv : W.var? Tryz.prog name = some cs) : g < W.heap.size := by
  unfold World.var? at hv
  rw [hg, Option.bind_some] at hv
  by_cases h : g < W.heap.size
  · exact h
  · rw [Array.getElem?_eq_none (by omega)] at hv
    cases hv
theorem laid_of {W : World} (h0 : laidMetH Tryz.prog lay7 W) (hs : W.ShapedOpen Tryz.prog) : Laid W := by
  have h : laidMet Tryz.prog lay7 W := h0
  obtain ⟨ps, ⟨_, _, _, _, _, _, _, _, _, _, ⟨g2, t2, c2, f2, p2, _, hg2, ht2, hv2, hd2, ⟨g3, t3, c3, f3, p3, _, hg3, ht3, hv3, hd3, ⟨_, _, _, _, _, _, _, _, hv4, _, ⟨g5, t5, c5, f5, p5, _, hg5, ht5, hv5, hd5, ⟨g6, t6, c6, f6, p6, _, hg6, ht6, hv6, hd6, _, _⟩, _⟩, _⟩, _⟩, _⟩, _⟩, _⟩ := h
  refine ⟨cell_of_shapedOpen_int hs (g := 0) (t := 3) (zero := #[.int .i64 0]) (by decide) (by kernel_rfl) rfl (by kernel_rfl) (by kernel_rfl) Tryz.underlying3, ?_, ?_, ?_, ?_, ?_⟩
  · exact tab_of (g := 1) (by kernel_rfl) (by kernel_rfl) (by kernel_rfl) Tryz.underlying144 Tryz.underlying22 (by kernel_rfl) (by kernel_rfl) hg3 ht3 hv3 hd3
  · exact err_of (by kernel_rfl) (by kernel_rfl) hg6 ht6 hv6 hd6
  · exact err_of (by kernel_rfl) (by kernel_rfl) hg5 ht5 hv5 hd5
  · have := tab_of (g := 5) (zs := db64) (by kernel_rfl) (by kernel_rfl) (by kernel_rfl) Tryz.underlying166 Tryz.underlying5 (by kernel_rfl) (by kernel_rfl) hg2 ht2 hv2 hd2
    exact this.cell (by kernel_rfl) 15 (by decide)
  · have hg : Tryz.prog.globalNamed "unicode/utf8.acceptRanges" = some 7 := by kernel_rfl
    have := var_lt hg hv4
    omega
theorem lay_witness (os : Os) (args : Array Value) : laidMetH Tryz.prog lay7 ((World.laidAll Tryz.prog os lay7).forCall (fun _ _ => 0) ⟨#[], args, []⟩).memory := laidMet_laidAll (laid := lay7) args (by kernel_rfl) (by kernel_rfl)
/-- What the shape and the listed variables give a contract. -/
theorem handed_laid {H : Type} {enc : TypeId × Value → H} {os : Os} {f : FuncId} {fn : Func} {s : ChangeSpec} {conds : List PathCond} (own : ownKnob Tryz.prog.godebug = none) (started : os.Started) (noInit : Tryz.prog.inits.idxOf? f = none) (hfn : Tryz.prog.funcs[f]? = some fn)
    (wit : ∃ (w : World) (tape : Tape) (i : Input), w.os = os ∧ (w.forCall tape i).Shaped Tryz.checked.prog ∧ i.vars = [] ∧ Input.okWide Tryz.checked.prog (w.forCall tape i) .any w.heap.size f i ∧ ((s.pre enc Tryz.checked.prog fn conds false (w.forCall tape i).memory i.args ∧ laidMetH Tryz.checked.prog lay7 (w.forCall tape i).memory) ∧ sizedMet enc Tryz.checked.prog fn (OpenSpec.ofChange s) false (w.forCall tape i).memory i.args) ∧ ({} : Assume).holds Tryz.checked.prog (lone (Frame.enter Tryz.checked.prog f i.args .normal) [] (w.forCall tape i)))
    (contract : ∀ (W : World) (base : Nat) (args : Array Value) (ds gs : List (DataW H)) (before : List MemPlace), (∀ (j : Nat) t v, fn.params[j]? = some t → args[j]? = some v → Value.okWide Tryz.prog W .any base t v) → DataW.Whole enc Tryz.prog fn.params.toList s.vars false W args.toList ds gs before → Laid W →
      Calls Tryz.prog f args W fun e W' => ∃ v, e = .returned v ∧ s.post enc Tryz.prog fn false true false false W args v W') :
    ReturnsInHanded {} Tryz.checked os f .any (fun w args => (s.pre enc Tryz.checked.prog fn conds false w args ∧ laidMetH Tryz.checked.prog lay7 w) ∧ sizedMet enc Tryz.checked.prog fn (OpenSpec.ofChange s) false w args) (s.post enc Tryz.checked.prog fn false true false false) := by
  refine returnsInHanded_of_calls own started noInit wit fun w tape i _ hsh _ hok hpre _ => ?_
  obtain ⟨_, _, _, fn2, hfn2, _, _, _, _, hval⟩ := hok
  obtain rfl : fn2 = fn := Option.some.inj (hfn2.symm.trans hfn)
  obtain ⟨⟨⟨ds, gs, before, hw, _⟩, hx⟩, _⟩ := hpre
  have hx2 : laidMetH Tryz.prog lay7 (w.forCall tape i) := laidMetH.of_heap (by rfl) hx
  have hl : Laid (w.forCall tape i) := laid_of hx2 hsh
  have hw' := DataW.Whole.of_heap (w' := w.forCall tape i) (by rfl) hw
  refine (contract (w.forCall tape i) w.heap.size i.args ds gs before hval hw' hl).mono fun e W' ⟨v, he, hp⟩ => ?_
  subst he
  exact ChangeSpec.post_blind hp
theorem laidOut : laidOutB Tryz.prog = true := by kernel_rfl
theorem ownNone : ownKnob Tryz.prog.godebug = none := by kernel_rfl
section
variable {W : World} {b0 : Nat} {v : Value}
theorem cell_str (h : Cell.okWide Tryz.prog W .any b0 9 v) : ∃ s, v = .string s := by
  simp only [Cell.okWide, Tryz.underlying9] at h
  cases v <;> simp_all [Cell.ok, Tryz.underlying9]
theorem op9 (h : Value.okWide Tryz.prog W .any b0 9 v) : ∃ s, v = .string s := by
  simp only [Value.okWide, Tryz.underlying9] at h
  exact cell_str h
end
end Go.Proofs.YtndonmdgplojnaaGreatDoor
