/- The packets that are made: both sides. -/
import Derived.Test.YtahknenmjnhmjaaP2
namespace Go.Proofs.Ytahknenmjnhmjaa
open Go.RowKit

/-- The sum as it is told. -/
def tS (v0 : Bool) (h0 l0 : Int) (v1 : Bool) (h1 l1 p : Int) (s : ByteArray) : Int := if p = 17 then (if sO v0 h0 l0 v1 h1 l1 p s = 0 then 65535 else sO v0 h0 l0 v1 h1 l1 p s) else sO v0 h0 l0 v1 h1 l1 p s
theorem tS_nn (v0 : Bool) (h0 l0 : Int) (v1 : Bool) (h1 l1 p : Int) (s : ByteArray) : 0 ≤ tS v0 h0 l0 v1 h1 l1 p s ∧ tS v0 h0 l0 v1 h1 l1 p s ≤ 65535 := by
  have := sO_nn v0 h0 l0 v1 h1 l1 p s
  unfold tS
  split
  · split
    · decide
    · exact this
  · exact this
/-- What is ahead of the sum and what is behind it, with noughts for it. -/
def pkD (A B : ByteArray) : ByteArray := (A ++ be2 (cv .u64 0)) ++ B
def pkE (v0 : Bool) (h0 l0 : Int) (v1 : Bool) (h1 l1 : Int) (A B : ByteArray) : Int := my v0 h0 l0 v1 h1 l1 ((pkD A B).size : Int)
def pkO (v0 : Bool) (h0 l0 : Int) (v1 : Bool) (h1 l1 p : Int) (A B : ByteArray) : ByteArray := (A ++ be2 (cv .u64 (tS v0 h0 l0 v1 h1 l1 p (pkD A B)))) ++ B
theorem pkD_size (A B : ByteArray) : (pkD A B).size = A.size + 2 + B.size := by
  unfold pkD
  rw [ByteArray.size_append, ByteArray.size_append, be2_size]
theorem my_big (v0 : Bool) (h0 l0 : Int) (v1 : Bool) (h1 l1 m n : Int) (hm : 1480 < m) (hn : 1480 < n) : my v0 h0 l0 v1 h1 l1 m = my v0 h0 l0 v1 h1 l1 n ∧ ¬ my v0 h0 l0 v1 h1 l1 m = 0 := by
  have hh : 20 ≤ hdr v0 := by cases v0 <;> decide
  unfold my
  rw [if_pos (show 1500 < hdr v0 + m by omega), if_pos (show 1500 < hdr v0 + n by omega)]
  exact ⟨rfl, by split <;> decide⟩
theorem ext_all (d : ByteArray) (h : d.size ≤ 1500) : d.extract 0 (min d.size 1500) = d := by
  rw [Nat.min_eq_left h]
  apply ByteArray.ext
  rw [ByteArray.data_extract]
  show d.data.extract 0 d.data.size = d.data
  simp
theorem app_ext (X A B : ByteArray) (k : Nat) (hk : k = A.size) (s : ByteArray) (hs : s = pkD A B) : (s.extract 0 k ++ X) ++ s.extract (k + 2) s.size = (A ++ X) ++ B := by
  subst hk hs
  unfold pkD
  have e1 : ((A ++ be2 (cv .u64 0)) ++ B).extract 0 A.size = A := by
    rw [ByteArray.append_assoc]
    exact ext_left A _
  have e2 : ((A ++ be2 (cv .u64 0)) ++ B).extract (A.size + 2) ((A ++ be2 (cv .u64 0)) ++ B).size = B := by
    have h := ext_right (A ++ be2 (cv .u64 0)) B
    rw [ByteArray.size_append (a := A), be2_size] at h
    exact h
  rw [e1, e2]
def udA (f g n : Int) : ByteArray := (be2 (cv .u64 f) ++ be2 (cv .u64 g)) ++ be2 (cv .u64 (8 + n))
def tcA (f g q : Int) : ByteArray := (((be2 (cv .u64 f) ++ be2 (cv .u64 g)) ++ be4 (cv .u64 0)) ++ be4 (cv .u64 0)) ++ bs [80, q, 255, 255]
def tcB (d : ByteArray) : ByteArray := be2 (cv .u64 0) ++ d
def ehA (k : Int) : ByteArray := bs [k, 0]
def ehB (f : Int) (d : ByteArray) : ByteArray := (be2 (cv .u64 f) ++ be2 (cv .u64 0)) ++ d
theorem udA_size (f g n : Int) : (udA f g n).size = 6 := by
  unfold udA
  rw [ByteArray.size_append, ByteArray.size_append, be2_size, be2_size, be2_size]
theorem tcA_size (f g q : Int) : (tcA f g q).size = 16 := by
  unfold tcA
  simp only [ByteArray.size_append, be2_size, be4_size, bs_size, List.length_cons, List.length_nil]
theorem tcB_size (d : ByteArray) : (tcB d).size = 2 + d.size := by
  unfold tcB
  rw [ByteArray.size_append, be2_size]
theorem ehA_size (k : Int) : (ehA k).size = 2 := by
  unfold ehA
  rw [bs_size]
  rfl
theorem ehB_size (f : Int) (d : ByteArray) : (ehB f d).size = 4 + d.size := by
  unfold ehB
  rw [ByteArray.size_append, ByteArray.size_append, be2_size, be2_size]
theorem ud_doc (f g n : Int) (d : ByteArray) : ((((be2 (cv .u64 f) ++ be2 (cv .u64 g)) ++ be2 (cv .u64 (8 + n))) ++ (⟨#[0, 0]⟩ : ByteArray)) ++ d) = pkD (udA f g n) d := rfl
theorem tc_doc (f g q : Int) (d : ByteArray) : ((((((be2 (cv .u64 f) ++ be2 (cv .u64 g)) ++ bs [0, 0, 0, 0, 0, 0, 0, 0]) ++ (⟨#[80]⟩ : ByteArray)) ++ bs [q]) ++ (⟨#[255, 255, 0, 0, 0, 0]⟩ : ByteArray)) ++ d) = pkD (tcA f g q) (tcB d) := by
  unfold pkD tcA tcB
  have h1 : bs [0, 0, 0, 0, 0, 0, 0, 0] = be4 (cv .u64 0) ++ be4 (cv .u64 0) := by decide
  have h2 : (⟨#[80]⟩ : ByteArray) ++ (bs [q] ++ ((⟨#[255, 255, 0, 0, 0, 0]⟩ : ByteArray) ++ d)) = bs [80, q, 255, 255] ++ (be2 (cv .u64 0) ++ (be2 (cv .u64 0) ++ d)) := by
    rw [← ByteArray.append_assoc, ← ByteArray.append_assoc, ← ByteArray.append_assoc, ← ByteArray.append_assoc]
    rfl
  rw [h1]
  simp only [ByteArray.append_assoc]
  rw [h2]
theorem eh_doc (k f : Int) (d : ByteArray) : ((((bs [k] ++ (⟨#[0, 0, 0]⟩ : ByteArray)) ++ be2 (cv .u64 f)) ++ (⟨#[0, 0]⟩ : ByteArray)) ++ d) = pkD (ehA k) (ehB f d) := by
  unfold pkD ehA ehB
  have h2 : bs [k] ++ ((⟨#[0, 0, 0]⟩ : ByteArray) ++ (be2 (cv .u64 f) ++ (be2 (cv .u64 0) ++ d))) = bs [k, 0] ++ (be2 (cv .u64 0) ++ (be2 (cv .u64 f) ++ (be2 (cv .u64 0) ++ d))) := by
    rw [← ByteArray.append_assoc, ← ByteArray.append_assoc (a := bs [k, 0])]
    rfl
  have h3 : (⟨#[0, 0]⟩ : ByteArray) = be2 (cv .u64 0) := by decide
  rw [h3]
  simp only [ByteArray.append_assoc]
  exact h2
theorem nil_app (d : ByteArray) : (⟨#[]⟩ : ByteArray) ++ d = d := by
  apply ByteArray.ext
  rw [ByteArray.data_append]
  exact Array.empty_append
theorem be2_16 (x : Int) : be2 (cv .u64 (cv .u16 x)) = be2 (cv .u64 x) := by rw [be2_u16, be2_u64]
set_option maxRecDepth 100000 in
set_option maxHeartbeats 4000000 in
set_option linter.unusedSimpArgs false in
theorem c_toldSum (v0 : Bool) (h0 l0 : Int) (v1 : Bool) (h1 l1 p t : Int) (s : ByteArray) (hs : s.size ≤ 9000) (hp : 0 ≤ p ∧ p < 256) (w : World) (hL : Laid w)  :
    Calls Try.prog 51 #[.agg (av 9 (ls [.bool (v0), .int .u64 h0, .int .u64 l0, .bool (v1), .int .u64 h1, .int .u64 l1, .int .u8 p, .int .u8 t, .string s]))] w fun r w' => r = .returned (.int .u16 (tS v0 h0 l0 v1 h1 l1 p s)) ∧ Below w.heap.size w w' := by
  go_enter Try.func51, Try.ntmps51
  have M := Mem.start hL
  refine wp_seq ?_
  refine rg_lit ?_
  refine pl_new M (want_no rfl) (some 1) rfl (.cells (av 9 (ls [.bool (v0), .int .u64 h0, .int .u64 l0, .bool (v1), .int .u64 h1, .int .u64 l1, .int .u8 p, .int .u8 t, .string s])) 26) (fun _ => by kernel_rfl) ?_
  intro g1 u1 M
  replace M : Mem ⟨w, []⟩ [⟨g1, .cells (av 9 (ls [.bool (v0), .int .u64 h0, .int .u64 l0, .bool (v1), .int .u64 h1, .int .u64 l1, .int .u8 p, .int .u8 t, .string s])) 26⟩] u1 := M
  refine pl_val (want_no rfl) (some 2) rfl (.int .u16 0) (fun _ => by kernel_rfl) ?_
  refine pl_nil ?_
  refine au_then ?_
  refine wp_seq ?_
  refine rg_lit ?_
  refine pl_load M (want_no rfl) (some 4) rfl 26 _ rfl 0 g1 0 (by kernel_rfl) 9 26 (ls [.bool (v0), .int .u64 h0, .int .u64 l0, .bool (v1), .int .u64 h1, .int .u64 l1, .int .u8 p, .int .u8 t, .string s]) rfl 9 (ls [.bool (v0), .int .u64 h0, .int .u64 l0, .bool (v1), .int .u64 h1, .int .u64 l1, .int .u8 p, .int .u8 t, .string s]) (fun j _ => by rw [Nat.zero_add]) (by decide) _ Try.underlying26 rfl inz26 ?_
  refine pl_call M (want_no rfl) (some 5) rfl 27 #[.agg (av 9 (ls [.bool (v0), .int .u64 h0, .int .u64 l0, .bool (v1), .int .u64 h1, .int .u64 l1, .int .u8 p, .int .u8 t, .string s]))] (.int .u16 (sO v0 h0 l0 v1 h1 l1 p s)) (fun _ => by kernel_rfl) (fun w M => c_sumOf v0 h0 l0 v1 h1 l1 p t s (by omega) (by omega) w M.laid) ?_
  intro u2 M
  refine pl_val (want_no rfl) (some 3) rfl (.int .u16 (sO v0 h0 l0 v1 h1 l1 p s)) (fun _ => by kernel_rfl) ?_
  refine pl_nil ?_
  refine au_then ?_
  refine wp_seq ?_
  refine wp_seq ?_
  refine rg_lit ?_
  refine pl_val (want_no rfl) (some 6) rfl (.pointer (some ⟨g1, 6, none⟩)) (fun _ => by kernel_rfl) ?_
  refine pl_cell M (want_no rfl) (some 7) rfl 5 _ rfl g1 6 (by kernel_rfl) (.int .u8 p) (fun _ => by kernel_rfl) (fun w M => M.cell 0 rfl (by decide) rfl) ?_
  by_cases c0 : p = 17
  · skip
    refine pl_val (want_no rfl) (some 8) rfl (.bool true) (fun w => Eq.trans (b := .ok (.value (.bool (decide (p = 17)))) w) (by kernel_rfl) (by rw [decide_eq_true (c0)])) ?_
    refine pl_val (want_no rfl) (some 9) rfl (.bool true) (fun _ => by kernel_rfl) ?_
    refine pl_val (want_on 3 true rfl 9 rfl (by kernel_rfl)) (some 10) rfl (.int .u16 (sO v0 h0 l0 v1 h1 l1 p s)) (fun _ => by kernel_rfl) ?_
    by_cases c1 : (sO v0 h0 l0 v1 h1 l1 p s) = 0
    · skip
      refine pl_val (want_on 3 true rfl 9 rfl (by kernel_rfl)) (some 11) rfl (.bool true) (fun w => Eq.trans (b := .ok (.value (.bool (decide ((sO v0 h0 l0 v1 h1 l1 p s) = 0)))) w) (by kernel_rfl) (by rw [decide_eq_true (c1)])) ?_
      refine pl_val (want_no rfl) (some 12) rfl (.bool true) (fun _ => by kernel_rfl) ?_
      refine pl_nil ?_
      refine au_then ?_
      refine wp_cond_true (by kernel_rfl) ?_
      refine wp_seq ?_
      refine rg_lit ?_
      refine pl_val (want_no rfl) (some 2) rfl (.int .u16 65535) (fun _ => by kernel_rfl) ?_
      refine pl_nil ?_
      refine au_then ?_
      refine wp_ret ?_
      refine au_then_ret ?_
      have e0 : (tS v0 h0 l0 v1 h1 l1 p s) = 65535 := by simp only [tS, if_pos c0, if_pos c1]
      exact bodyPost_ret (v := .int .u16 65535) (results_tmp1 Try.results51 _ _ _ (by kernel_rfl)) (by kernel_rfl) ⟨by rw [e0], below_grown M.old⟩
    · skip
      refine pl_val (want_on 3 true rfl 9 rfl (by kernel_rfl)) (some 11) rfl (.bool false) (fun w => Eq.trans (b := .ok (.value (.bool (decide ((sO v0 h0 l0 v1 h1 l1 p s) = 0)))) w) (by kernel_rfl) (by rw [decide_eq_false (c1)])) ?_
      refine pl_val (want_no rfl) (some 12) rfl (.bool false) (fun _ => by kernel_rfl) ?_
      refine pl_nil ?_
      refine au_then ?_
      refine wp_cond_false (by kernel_rfl) ?_
      refine wp_skip ?_
      refine au_then ?_
      refine wp_seq ?_
      refine rg_lit ?_
      refine pl_val (want_no rfl) (some 13) rfl (.int .u16 (sO v0 h0 l0 v1 h1 l1 p s)) (fun _ => by kernel_rfl) ?_
      refine pl_val (want_no rfl) (some 2) rfl (.int .u16 (sO v0 h0 l0 v1 h1 l1 p s)) (fun _ => by kernel_rfl) ?_
      refine pl_nil ?_
      refine au_then ?_
      refine wp_ret ?_
      have e0 : (tS v0 h0 l0 v1 h1 l1 p s) = (sO v0 h0 l0 v1 h1 l1 p s) := by simp only [tS, if_pos c0, if_neg c1]
      exact bodyPost_ret (v := .int .u16 (sO v0 h0 l0 v1 h1 l1 p s)) (results_tmp1 Try.results51 _ _ _ (by kernel_rfl)) (by kernel_rfl) ⟨by rw [e0], below_grown M.old⟩
  · skip
    refine pl_val (want_no rfl) (some 8) rfl (.bool false) (fun w => Eq.trans (b := .ok (.value (.bool (decide (p = 17)))) w) (by kernel_rfl) (by rw [decide_eq_false (c0)])) ?_
    refine pl_val (want_no rfl) (some 9) rfl (.bool false) (fun _ => by kernel_rfl) ?_
    refine pl_skip (want_off 3 true rfl 9 rfl (by kernel_rfl)) (some 10) rfl ?_
    refine pl_skip (want_off 3 true rfl 9 rfl (by kernel_rfl)) (some 11) rfl ?_
    refine pl_val (want_no rfl) (some 12) rfl (.bool false) (fun _ => by kernel_rfl) ?_
    refine pl_nil ?_
    refine au_then ?_
    refine wp_cond_false (by kernel_rfl) ?_
    refine wp_skip ?_
    refine au_then ?_
    refine wp_seq ?_
    refine rg_lit ?_
    refine pl_val (want_no rfl) (some 13) rfl (.int .u16 (sO v0 h0 l0 v1 h1 l1 p s)) (fun _ => by kernel_rfl) ?_
    refine pl_val (want_no rfl) (some 2) rfl (.int .u16 (sO v0 h0 l0 v1 h1 l1 p s)) (fun _ => by kernel_rfl) ?_
    refine pl_nil ?_
    refine au_then ?_
    refine wp_ret ?_
    have e0 : (tS v0 h0 l0 v1 h1 l1 p s) = (sO v0 h0 l0 v1 h1 l1 p s) := by simp only [tS, if_neg c0]
    exact bodyPost_ret (v := .int .u16 (sO v0 h0 l0 v1 h1 l1 p s)) (results_tmp1 Try.results51 _ _ _ (by kernel_rfl)) (by kernel_rfl) ⟨by rw [e0], below_grown M.old⟩

set_option maxRecDepth 100000 in
set_option maxHeartbeats 4000000 in
set_option linter.unusedSimpArgs false in
theorem c_packetT (v0 : Bool) (h0 l0 : Int) (v1 : Bool) (h1 l1 p : Int) (f g : Int) (A B d : ByteArray) (hA : A.size ≤ 100) (hB : B.size ≤ 100) (hd : d.size ≤ 8192) (hp : 0 ≤ p ∧ p < 256) (w : World) (hL : Laid w)  :
    Calls Try.prog 29 #[.agg (av 9 (ls [.int .u8 p, .bool (v0), .int .u64 h0, .int .u64 l0, .bool (v1), .int .u64 h1, .int .u64 l1, .int .u16 f, .int .u16 g])), .string A, .string B, .string d] w fun r w' => r = .returned (.tuple #[.agg (av 9 (ls [.bool (zB (pkE v0 h0 l0 v1 h1 l1 A (B ++ (d.extract 0 (min d.size 1500)))) v0), .int .u64 (zI (pkE v0 h0 l0 v1 h1 l1 A (B ++ (d.extract 0 (min d.size 1500)))) h0), .int .u64 (zI (pkE v0 h0 l0 v1 h1 l1 A (B ++ (d.extract 0 (min d.size 1500)))) l0), .bool (zB (pkE v0 h0 l0 v1 h1 l1 A (B ++ (d.extract 0 (min d.size 1500)))) v1), .int .u64 (zI (pkE v0 h0 l0 v1 h1 l1 A (B ++ (d.extract 0 (min d.size 1500)))) h1), .int .u64 (zI (pkE v0 h0 l0 v1 h1 l1 A (B ++ (d.extract 0 (min d.size 1500)))) l1), .int .u8 (zI (pkE v0 h0 l0 v1 h1 l1 A (B ++ (d.extract 0 (min d.size 1500)))) p), .int .u8 (zI (pkE v0 h0 l0 v1 h1 l1 A (B ++ (d.extract 0 (min d.size 1500)))) 64), .string (zS (pkE v0 h0 l0 v1 h1 l1 A (B ++ (d.extract 0 (min d.size 1500)))) (pkO v0 h0 l0 v1 h1 l1 p A (B ++ (d.extract 0 (min d.size 1500)))))])), .int .i64 (pkE v0 h0 l0 v1 h1 l1 A (B ++ (d.extract 0 (min d.size 1500))))]) ∧ Below w.heap.size w w' := by
  go_enter Try.func29, Try.ntmps29
  have M := Mem.start hL
  refine wp_seq ?_
  refine rg_lit ?_
  refine pl_new M (want_no rfl) (some 4) rfl (.cells (av 9 (ls [.int .u8 p, .bool (v0), .int .u64 h0, .int .u64 l0, .bool (v1), .int .u64 h1, .int .u64 l1, .int .u16 f, .int .u16 g])) 29) (fun _ => by kernel_rfl) ?_
  intro g1 u1 M
  replace M : Mem ⟨w, []⟩ [⟨g1, .cells (av 9 (ls [.int .u8 p, .bool (v0), .int .u64 h0, .int .u64 l0, .bool (v1), .int .u64 h1, .int .u64 l1, .int .u16 f, .int .u16 g])) 29⟩] u1 := M
  refine pl_new M (want_no rfl) (some 8) rfl (.cells (av 9 (ls [.bool false, .int .u64 0, .int .u64 0, .bool false, .int .u64 0, .int .u64 0, .int .u8 0, .int .u8 0, .string ⟨#[]⟩])) 26) (fun _ => by kernel_rfl) ?_
  intro g2 u2 M
  replace M : Mem ⟨w, []⟩ [⟨g1, .cells (av 9 (ls [.int .u8 p, .bool (v0), .int .u64 h0, .int .u64 l0, .bool (v1), .int .u64 h1, .int .u64 l1, .int .u16 f, .int .u16 g])) 29⟩, ⟨g2, .cells (av 9 (ls [.bool false, .int .u64 0, .int .u64 0, .bool false, .int .u64 0, .int .u64 0, .int .u8 0, .int .u8 0, .string ⟨#[]⟩])) 26⟩] u2 := M
  refine pl_val (want_no rfl) (some 9) rfl (.int .i64 0) (fun _ => by kernel_rfl) ?_
  refine pl_nil ?_
  refine au_then ?_
  refine wp_seq ?_
  refine rg_lit ?_
  refine pl_val (want_no rfl) (some 12) rfl (.string B) (fun _ => by kernel_rfl) ?_
  refine pl_val (want_no rfl) (some 13) rfl (.string d) (fun _ => by kernel_rfl) ?_
  refine pl_val (want_no rfl) (some 14) rfl (.string d) (fun _ => by kernel_rfl) ?_
  refine pl_val (want_no rfl) (some 15) rfl (.int .i64 (d.size : Int)) (fun _ => by kernel_rfl) ?_
  refine pl_val (want_no rfl) (some 16) rfl (.int .i64 ((min d.size 1500 : Nat) : Int)) (fun w => Eq.trans (b := .ok (.value (.int .i64 (if (1500 : Int) < (d.size : Int) then 1500 else (d.size : Int)))) w) (by kernel_rfl) (by congr 3; split <;> omega)) ?_
  refine pl_val (want_no rfl) (some 17) rfl (.string (d.extract 0 (min d.size 1500))) (run_strh 9 Try.underlying9 _ _ rfl d (by kernel_rfl) .i64 (min d.size 1500) (by kernel_rfl) (by omega) _ rfl) ?_
  refine pl_val (want_no rfl) (some 18) rfl (.string (B ++ (d.extract 0 (min d.size 1500)))) (run_cat 9 9 _ _ rfl B (d.extract 0 (min d.size 1500)) (by kernel_rfl) (by kernel_rfl) (by (try simp only [ByteArray.size_append, ByteArray.size_extract, be2_size, be4_size, be8_size, bs_size, sz_mk, List.size_toArray, List.length_cons, List.length_nil]); omega)) ?_
  refine pl_val (want_no rfl) (some 2) rfl (.string (B ++ (d.extract 0 (min d.size 1500)))) (fun _ => by kernel_rfl) ?_
  refine pl_nil ?_
  refine au_then ?_
  refine wp_seq ?_
  refine rg_allocs M 12 [(10, fun g => .pointer (some ⟨g, 0, none⟩), .cells (av 9 (ls [.bool false, .int .u64 0, .int .u64 0, .bool false, .int .u64 0, .int .u64 0, .int .u8 0, .int .u8 0, .string ⟨#[]⟩])) 26)] (by kernel_rfl) (by kernel_rfl) (⟨rfl, rfl, fun _ _ => by kernel_rfl, trivial⟩) (by decide) ?_
  simp only [List.take_succ_cons, List.take_zero]
  refine k_val (want_no rfl) (some 19) rfl (.pointer (some ⟨g1, 1, none⟩)) (fun _ => by kernel_rfl) ?_
  refine k_load M (want_no rfl) (some 20) rfl 24 _ rfl 0 g1 1 (by kernel_rfl) 9 29 (ls [.int .u8 p, .bool (v0), .int .u64 h0, .int .u64 l0, .bool (v1), .int .u64 h1, .int .u64 l1, .int .u16 f, .int .u16 g]) rfl 3 (ls [.bool (v0), .int .u64 h0, .int .u64 l0]) (part_ls _ 1 3 _ rfl) (by decide) _ Try.underlying24 rfl inz24 ?_
  refine k_val (want_no rfl) (some 21) rfl (.pointer (some ⟨g1, 4, none⟩)) (fun _ => by kernel_rfl) ?_
  refine k_load M (want_no rfl) (some 22) rfl 24 _ rfl 0 g1 4 (by kernel_rfl) 9 29 (ls [.int .u8 p, .bool (v0), .int .u64 h0, .int .u64 l0, .bool (v1), .int .u64 h1, .int .u64 l1, .int .u16 f, .int .u16 g]) rfl 3 (ls [.bool (v1), .int .u64 h1, .int .u64 l1]) (part_ls _ 4 3 _ rfl) (by decide) _ Try.underlying24 rfl inz24 ?_
  refine k_val (want_no rfl) (some 23) rfl (.pointer (some ⟨g1, 0, none⟩)) (fun _ => by kernel_rfl) ?_
  refine k_cell M (want_no rfl) (some 24) rfl 5 _ rfl g1 0 (by kernel_rfl) (.int .u8 p) (fun _ => by kernel_rfl) (fun w M => M.cell 0 rfl (by decide) rfl) ?_
  refine k_val (want_no rfl) (some 25) rfl (.string A) (fun _ => by kernel_rfl) ?_
  refine k_call M (want_no rfl) (some 26) rfl 31 #[.int .u16 0] (.string (be2 (cv .u64 0))) (fun _ => by kernel_rfl) (fun w M => c_U16 0 w M.laid) ?_
  refine k_val (want_no rfl) (some 27) rfl (.string (A ++ (be2 (cv .u64 0)))) (run_cat 9 9 _ _ rfl A (be2 (cv .u64 0)) (by kernel_rfl) (by kernel_rfl) (by (try simp only [ByteArray.size_append, ByteArray.size_extract, be2_size, be4_size, be8_size, bs_size, sz_mk, List.size_toArray, List.length_cons, List.length_nil]); omega)) ?_
  refine k_val (want_no rfl) (some 28) rfl (.string (B ++ (d.extract 0 (min d.size 1500)))) (fun _ => by kernel_rfl) ?_
  refine k_val (want_no rfl) (some 29) rfl (.string ((A ++ (be2 (cv .u64 0))) ++ (B ++ (d.extract 0 (min d.size 1500))))) (run_cat 9 9 _ _ rfl (A ++ (be2 (cv .u64 0))) (B ++ (d.extract 0 (min d.size 1500))) (by kernel_rfl) (by kernel_rfl) (by (try simp only [ByteArray.size_append, ByteArray.size_extract, be2_size, be4_size, be8_size, bs_size, sz_mk, List.size_toArray, List.length_cons, List.length_nil]); omega)) ?_
  refine k_val (want_no rfl) (some 30) rfl (.agg (av 9 (ls [.bool (v0), .int .u64 h0, .int .u64 l0, .bool (v1), .int .u64 h1, .int .u64 l1, .int .u8 p, .int .u8 64, .string ((A ++ (be2 (cv .u64 0))) ++ (B ++ (d.extract 0 (min d.size 1500))))]))) (fun _ => by kernel_rfl) ?_
  refine kl_nil ?_
  intro u3 g3 M
  replace M : Mem ⟨w, []⟩ [⟨g1, .cells (av 9 (ls [.int .u8 p, .bool (v0), .int .u64 h0, .int .u64 l0, .bool (v1), .int .u64 h1, .int .u64 l1, .int .u16 f, .int .u16 g])) 29⟩, ⟨g2, .cells (av 9 (ls [.bool false, .int .u64 0, .int .u64 0, .bool false, .int .u64 0, .int .u64 0, .int .u8 0, .int .u8 0, .string ⟨#[]⟩])) 26⟩, ⟨g3, .cells (av 9 (ls [.bool false, .int .u64 0, .int .u64 0, .bool false, .int .u64 0, .int .u64 0, .int .u8 0, .int .u8 0, .string ⟨#[]⟩])) 26⟩] u3 := M
  refine pl_put M (want_no rfl) rfl 26 _ _ rfl 2 g3 0 (by kernel_rfl) 9 26 (ls [.bool false, .int .u64 0, .int .u64 0, .bool false, .int .u64 0, .int .u64 0, .int .u8 0, .int .u8 0, .string ⟨#[]⟩]) rfl 9 (ls [.bool (v0), .int .u64 h0, .int .u64 l0, .bool (v1), .int .u64 h1, .int .u64 l1, .int .u8 p, .int .u8 64, .string ((A ++ (be2 (cv .u64 0))) ++ (B ++ (d.extract 0 (min d.size 1500))))]) (ls [.bool (v0), .int .u64 h0, .int .u64 l0, .bool (v1), .int .u64 h1, .int .u64 l1, .int .u8 p, .int .u8 64, .string ((A ++ (be2 (cv .u64 0))) ++ (B ++ (d.extract 0 (min d.size 1500))))]) (by kernel_rfl) inz26 (by decide) (one_ls _ rfl) (fun j hj => by rw [if_pos (by omega), Nat.sub_zero]) ?_
  intro u4 M
  replace M : Mem ⟨w, []⟩ [⟨g1, .cells (av 9 (ls [.int .u8 p, .bool (v0), .int .u64 h0, .int .u64 l0, .bool (v1), .int .u64 h1, .int .u64 l1, .int .u16 f, .int .u16 g])) 29⟩, ⟨g2, .cells (av 9 (ls [.bool false, .int .u64 0, .int .u64 0, .bool false, .int .u64 0, .int .u64 0, .int .u8 0, .int .u8 0, .string ⟨#[]⟩])) 26⟩, ⟨g3, .cells (av 9 (ls [.bool (v0), .int .u64 h0, .int .u64 l0, .bool (v1), .int .u64 h1, .int .u64 l1, .int .u8 p, .int .u8 64, .string ((A ++ (be2 (cv .u64 0))) ++ (B ++ (d.extract 0 (min d.size 1500))))])) 26⟩] u4 := M
  refine pl_nil ?_
  refine au_then ?_
  refine wp_seq ?_
  refine wp_seq ?_
  refine rg_lit ?_
  refine pl_load M (want_no rfl) (some 31) rfl 26 _ rfl 2 g3 0 (by kernel_rfl) 9 26 (ls [.bool (v0), .int .u64 h0, .int .u64 l0, .bool (v1), .int .u64 h1, .int .u64 l1, .int .u8 p, .int .u8 64, .string ((A ++ (be2 (cv .u64 0))) ++ (B ++ (d.extract 0 (min d.size 1500))))]) rfl 9 (ls [.bool (v0), .int .u64 h0, .int .u64 l0, .bool (v1), .int .u64 h1, .int .u64 l1, .int .u8 p, .int .u8 64, .string ((A ++ (be2 (cv .u64 0))) ++ (B ++ (d.extract 0 (min d.size 1500))))]) (fun j _ => by rw [Nat.zero_add]) (by decide) _ Try.underlying26 rfl inz26 ?_
  refine pl_call M (want_no rfl) (some 32) rfl 21 #[.agg (av 9 (ls [.bool (v0), .int .u64 h0, .int .u64 l0, .bool (v1), .int .u64 h1, .int .u64 l1, .int .u8 p, .int .u8 64, .string ((A ++ (be2 (cv .u64 0))) ++ (B ++ (d.extract 0 (min d.size 1500))))]))] (.int .i64 (my v0 h0 l0 v1 h1 l1 (((A ++ (be2 (cv .u64 0))) ++ (B ++ (d.extract 0 (min d.size 1500)))).size : Int))) (fun _ => by kernel_rfl) (fun w M => c_May v0 h0 l0 v1 h1 l1 p 64 ((A ++ (be2 (cv .u64 0))) ++ (B ++ (d.extract 0 (min d.size 1500)))) (by (try simp only [ByteArray.size_append, ByteArray.size_extract, be2_size, be4_size, be8_size, bs_size, sz_mk, List.size_toArray, List.length_cons, List.length_nil]); omega) w M.laid) ?_
  intro u5 M
  refine pl_val (want_no rfl) (some 11) rfl (.int .i64 (my v0 h0 l0 v1 h1 l1 (((A ++ (be2 (cv .u64 0))) ++ (B ++ (d.extract 0 (min d.size 1500)))).size : Int))) (fun _ => by kernel_rfl) ?_
  refine pl_nil ?_
  refine au_then ?_
  refine wp_seq ?_
  refine rg_lit ?_
  refine pl_val (want_no rfl) (some 33) rfl (.int .i64 (my v0 h0 l0 v1 h1 l1 (((A ++ (be2 (cv .u64 0))) ++ (B ++ (d.extract 0 (min d.size 1500)))).size : Int))) (fun _ => by kernel_rfl) ?_
  by_cases c0 : (my v0 h0 l0 v1 h1 l1 (((A ++ (be2 (cv .u64 0))) ++ (B ++ (d.extract 0 (min d.size 1500)))).size : Int)) = 0
  · skip
    refine pl_val (want_no rfl) (some 34) rfl (.bool false) (fun w => Eq.trans (b := .ok (.value (.bool (!(decide ((my v0 h0 l0 v1 h1 l1 (((A ++ (be2 (cv .u64 0))) ++ (B ++ (d.extract 0 (min d.size 1500)))).size : Int)) = 0))))) w) (by kernel_rfl) (by rw [decide_eq_true (c0)]; rfl)) ?_
    refine pl_nil ?_
    refine au_then ?_
    refine wp_cond_false (by kernel_rfl) ?_
    refine wp_skip ?_
    refine au_then ?_
    refine wp_seq ?_
    refine rg_lit ?_
    refine pl_val (want_no rfl) (some 37) rfl (.string A) (fun _ => by kernel_rfl) ?_
    refine pl_load M (want_no rfl) (some 38) rfl 26 _ rfl 2 g3 0 (by kernel_rfl) 9 26 (ls [.bool (v0), .int .u64 h0, .int .u64 l0, .bool (v1), .int .u64 h1, .int .u64 l1, .int .u8 p, .int .u8 64, .string ((A ++ (be2 (cv .u64 0))) ++ (B ++ (d.extract 0 (min d.size 1500))))]) rfl 9 (ls [.bool (v0), .int .u64 h0, .int .u64 l0, .bool (v1), .int .u64 h1, .int .u64 l1, .int .u8 p, .int .u8 64, .string ((A ++ (be2 (cv .u64 0))) ++ (B ++ (d.extract 0 (min d.size 1500))))]) (fun j _ => by rw [Nat.zero_add]) (by decide) _ Try.underlying26 rfl inz26 ?_
    refine pl_call M (want_no rfl) (some 39) rfl 51 #[.agg (av 9 (ls [.bool (v0), .int .u64 h0, .int .u64 l0, .bool (v1), .int .u64 h1, .int .u64 l1, .int .u8 p, .int .u8 64, .string ((A ++ (be2 (cv .u64 0))) ++ (B ++ (d.extract 0 (min d.size 1500))))]))] (.int .u16 (tS v0 h0 l0 v1 h1 l1 p ((A ++ (be2 (cv .u64 0))) ++ (B ++ (d.extract 0 (min d.size 1500)))))) (fun _ => by kernel_rfl) (fun w M => c_toldSum v0 h0 l0 v1 h1 l1 p 64 ((A ++ (be2 (cv .u64 0))) ++ (B ++ (d.extract 0 (min d.size 1500)))) (by (try simp only [ByteArray.size_append, ByteArray.size_extract, be2_size, be4_size, be8_size, bs_size, sz_mk, List.size_toArray, List.length_cons, List.length_nil]); omega) (by omega) w M.laid) ?_
    intro u6 M
    refine pl_call M (want_no rfl) (some 40) rfl 31 #[.int .u16 (tS v0 h0 l0 v1 h1 l1 p ((A ++ (be2 (cv .u64 0))) ++ (B ++ (d.extract 0 (min d.size 1500)))))] (.string (be2 (cv .u64 (tS v0 h0 l0 v1 h1 l1 p ((A ++ (be2 (cv .u64 0))) ++ (B ++ (d.extract 0 (min d.size 1500)))))))) (fun _ => by kernel_rfl) (fun w M => c_U16 (tS v0 h0 l0 v1 h1 l1 p ((A ++ (be2 (cv .u64 0))) ++ (B ++ (d.extract 0 (min d.size 1500))))) w M.laid) ?_
    intro u7 M
    refine pl_val (want_no rfl) (some 41) rfl (.string (A ++ (be2 (cv .u64 (tS v0 h0 l0 v1 h1 l1 p ((A ++ (be2 (cv .u64 0))) ++ (B ++ (d.extract 0 (min d.size 1500))))))))) (run_cat 9 9 _ _ rfl A (be2 (cv .u64 (tS v0 h0 l0 v1 h1 l1 p ((A ++ (be2 (cv .u64 0))) ++ (B ++ (d.extract 0 (min d.size 1500))))))) (by kernel_rfl) (by kernel_rfl) (by (try simp only [ByteArray.size_append, ByteArray.size_extract, be2_size, be4_size, be8_size, bs_size, sz_mk, List.size_toArray, List.length_cons, List.length_nil]); omega)) ?_
    refine pl_val (want_no rfl) (some 42) rfl (.string (B ++ (d.extract 0 (min d.size 1500)))) (fun _ => by kernel_rfl) ?_
    refine pl_val (want_no rfl) (some 43) rfl (.string ((A ++ (be2 (cv .u64 (tS v0 h0 l0 v1 h1 l1 p ((A ++ (be2 (cv .u64 0))) ++ (B ++ (d.extract 0 (min d.size 1500)))))))) ++ (B ++ (d.extract 0 (min d.size 1500))))) (run_cat 9 9 _ _ rfl (A ++ (be2 (cv .u64 (tS v0 h0 l0 v1 h1 l1 p ((A ++ (be2 (cv .u64 0))) ++ (B ++ (d.extract 0 (min d.size 1500)))))))) (B ++ (d.extract 0 (min d.size 1500))) (by kernel_rfl) (by kernel_rfl) (by (try simp only [ByteArray.size_append, ByteArray.size_extract, be2_size, be4_size, be8_size, bs_size, sz_mk, List.size_toArray, List.length_cons, List.length_nil]); omega)) ?_
    refine pl_val (want_no rfl) (some 44) rfl (.pointer (some ⟨g3, 8, none⟩)) (fun _ => by kernel_rfl) ?_
    refine pl_put1 M (want_no rfl) rfl 9 _ _ rfl 2 g3 8 (by kernel_rfl) 9 26 (ls [.bool (v0), .int .u64 h0, .int .u64 l0, .bool (v1), .int .u64 h1, .int .u64 l1, .int .u8 p, .int .u8 64, .string ((A ++ (be2 (cv .u64 0))) ++ (B ++ (d.extract 0 (min d.size 1500))))]) rfl (.string ((A ++ (be2 (cv .u64 (tS v0 h0 l0 v1 h1 l1 p ((A ++ (be2 (cv .u64 0))) ++ (B ++ (d.extract 0 (min d.size 1500)))))))) ++ (B ++ (d.extract 0 (min d.size 1500))))) (ls [.bool (v0), .int .u64 h0, .int .u64 l0, .bool (v1), .int .u64 h1, .int .u64 l1, .int .u8 p, .int .u8 64, .string ((A ++ (be2 (cv .u64 (tS v0 h0 l0 v1 h1 l1 p ((A ++ (be2 (cv .u64 0))) ++ (B ++ (d.extract 0 (min d.size 1500)))))))) ++ (B ++ (d.extract 0 (min d.size 1500))))]) (by kernel_rfl) inz9 (by decide) rfl rfl (put_ls _ 8 _ _ rfl) ?_
    intro u8 M
    replace M : Mem ⟨w, []⟩ [⟨g1, .cells (av 9 (ls [.int .u8 p, .bool (v0), .int .u64 h0, .int .u64 l0, .bool (v1), .int .u64 h1, .int .u64 l1, .int .u16 f, .int .u16 g])) 29⟩, ⟨g2, .cells (av 9 (ls [.bool false, .int .u64 0, .int .u64 0, .bool false, .int .u64 0, .int .u64 0, .int .u8 0, .int .u8 0, .string ⟨#[]⟩])) 26⟩, ⟨g3, .cells (av 9 (ls [.bool (v0), .int .u64 h0, .int .u64 l0, .bool (v1), .int .u64 h1, .int .u64 l1, .int .u8 p, .int .u8 64, .string ((A ++ (be2 (cv .u64 (tS v0 h0 l0 v1 h1 l1 p ((A ++ (be2 (cv .u64 0))) ++ (B ++ (d.extract 0 (min d.size 1500)))))))) ++ (B ++ (d.extract 0 (min d.size 1500))))])) 26⟩] u8 := M
    refine pl_nil ?_
    refine au_then ?_
    refine wp_seq ?_
    refine rg_lit ?_
    refine pl_load M (want_no rfl) (some 45) rfl 26 _ rfl 2 g3 0 (by kernel_rfl) 9 26 (ls [.bool (v0), .int .u64 h0, .int .u64 l0, .bool (v1), .int .u64 h1, .int .u64 l1, .int .u8 p, .int .u8 64, .string ((A ++ (be2 (cv .u64 (tS v0 h0 l0 v1 h1 l1 p ((A ++ (be2 (cv .u64 0))) ++ (B ++ (d.extract 0 (min d.size 1500)))))))) ++ (B ++ (d.extract 0 (min d.size 1500))))]) rfl 9 (ls [.bool (v0), .int .u64 h0, .int .u64 l0, .bool (v1), .int .u64 h1, .int .u64 l1, .int .u8 p, .int .u8 64, .string ((A ++ (be2 (cv .u64 (tS v0 h0 l0 v1 h1 l1 p ((A ++ (be2 (cv .u64 0))) ++ (B ++ (d.extract 0 (min d.size 1500)))))))) ++ (B ++ (d.extract 0 (min d.size 1500))))]) (fun j _ => by rw [Nat.zero_add]) (by decide) _ Try.underlying26 rfl inz26 ?_
    refine pl_put M (want_no rfl) rfl 26 _ _ rfl 1 g2 0 (by kernel_rfl) 9 26 (ls [.bool false, .int .u64 0, .int .u64 0, .bool false, .int .u64 0, .int .u64 0, .int .u8 0, .int .u8 0, .string ⟨#[]⟩]) rfl 9 (ls [.bool (v0), .int .u64 h0, .int .u64 l0, .bool (v1), .int .u64 h1, .int .u64 l1, .int .u8 p, .int .u8 64, .string ((A ++ (be2 (cv .u64 (tS v0 h0 l0 v1 h1 l1 p ((A ++ (be2 (cv .u64 0))) ++ (B ++ (d.extract 0 (min d.size 1500)))))))) ++ (B ++ (d.extract 0 (min d.size 1500))))]) (ls [.bool (v0), .int .u64 h0, .int .u64 l0, .bool (v1), .int .u64 h1, .int .u64 l1, .int .u8 p, .int .u8 64, .string ((A ++ (be2 (cv .u64 (tS v0 h0 l0 v1 h1 l1 p ((A ++ (be2 (cv .u64 0))) ++ (B ++ (d.extract 0 (min d.size 1500)))))))) ++ (B ++ (d.extract 0 (min d.size 1500))))]) (by kernel_rfl) inz26 (by decide) (one_ls _ rfl) (fun j hj => by rw [if_pos (by omega), Nat.sub_zero]) ?_
    intro u9 M
    replace M : Mem ⟨w, []⟩ [⟨g1, .cells (av 9 (ls [.int .u8 p, .bool (v0), .int .u64 h0, .int .u64 l0, .bool (v1), .int .u64 h1, .int .u64 l1, .int .u16 f, .int .u16 g])) 29⟩, ⟨g2, .cells (av 9 (ls [.bool (v0), .int .u64 h0, .int .u64 l0, .bool (v1), .int .u64 h1, .int .u64 l1, .int .u8 p, .int .u8 64, .string ((A ++ (be2 (cv .u64 (tS v0 h0 l0 v1 h1 l1 p ((A ++ (be2 (cv .u64 0))) ++ (B ++ (d.extract 0 (min d.size 1500)))))))) ++ (B ++ (d.extract 0 (min d.size 1500))))])) 26⟩, ⟨g3, .cells (av 9 (ls [.bool (v0), .int .u64 h0, .int .u64 l0, .bool (v1), .int .u64 h1, .int .u64 l1, .int .u8 p, .int .u8 64, .string ((A ++ (be2 (cv .u64 (tS v0 h0 l0 v1 h1 l1 p ((A ++ (be2 (cv .u64 0))) ++ (B ++ (d.extract 0 (min d.size 1500)))))))) ++ (B ++ (d.extract 0 (min d.size 1500))))])) 26⟩] u9 := M
    refine pl_val (want_no rfl) (some 9) rfl (.int .i64 0) (fun _ => by kernel_rfl) ?_
    refine pl_nil ?_
    refine au_then ?_
    refine wp_ret ?_
    have e0 : zB (pkE v0 h0 l0 v1 h1 l1 A (B ++ (d.extract 0 (min d.size 1500)))) v0 = v0 := if_pos c0
    have e1 : (zI (pkE v0 h0 l0 v1 h1 l1 A (B ++ (d.extract 0 (min d.size 1500)))) h0) = h0 := if_pos c0
    have e2 : (zI (pkE v0 h0 l0 v1 h1 l1 A (B ++ (d.extract 0 (min d.size 1500)))) l0) = l0 := if_pos c0
    have e3 : zB (pkE v0 h0 l0 v1 h1 l1 A (B ++ (d.extract 0 (min d.size 1500)))) v1 = v1 := if_pos c0
    have e4 : (zI (pkE v0 h0 l0 v1 h1 l1 A (B ++ (d.extract 0 (min d.size 1500)))) h1) = h1 := if_pos c0
    have e5 : (zI (pkE v0 h0 l0 v1 h1 l1 A (B ++ (d.extract 0 (min d.size 1500)))) l1) = l1 := if_pos c0
    have e6 : (zI (pkE v0 h0 l0 v1 h1 l1 A (B ++ (d.extract 0 (min d.size 1500)))) p) = p := if_pos c0
    have e7 : (zI (pkE v0 h0 l0 v1 h1 l1 A (B ++ (d.extract 0 (min d.size 1500)))) 64) = 64 := if_pos c0
    have e8 : (zS (pkE v0 h0 l0 v1 h1 l1 A (B ++ (d.extract 0 (min d.size 1500)))) (pkO v0 h0 l0 v1 h1 l1 p A (B ++ (d.extract 0 (min d.size 1500))))) = ((A ++ (be2 (cv .u64 (tS v0 h0 l0 v1 h1 l1 p ((A ++ (be2 (cv .u64 0))) ++ (B ++ (d.extract 0 (min d.size 1500)))))))) ++ (B ++ (d.extract 0 (min d.size 1500)))) := if_pos c0
    have e9 : (pkE v0 h0 l0 v1 h1 l1 A (B ++ (d.extract 0 (min d.size 1500)))) = 0 := c0
    exact bodyPost_ret (v := .tuple #[.agg (av 9 (ls [.bool (v0), .int .u64 h0, .int .u64 l0, .bool (v1), .int .u64 h1, .int .u64 l1, .int .u8 p, .int .u8 64, .string ((A ++ (be2 (cv .u64 (tS v0 h0 l0 v1 h1 l1 p ((A ++ (be2 (cv .u64 0))) ++ (B ++ (d.extract 0 (min d.size 1500)))))))) ++ (B ++ (d.extract 0 (min d.size 1500))))])), .int .i64 0]) (results_cell_tmp Try.results29 _ _ g2 26 (av 9 (ls [.bool (v0), .int .u64 h0, .int .u64 l0, .bool (v1), .int .u64 h1, .int .u64 l1, .int .u8 p, .int .u8 64, .string ((A ++ (be2 (cv .u64 (tS v0 h0 l0 v1 h1 l1 p ((A ++ (be2 (cv .u64 0))) ++ (B ++ (d.extract 0 (min d.size 1500)))))))) ++ (B ++ (d.extract 0 (min d.size 1500))))])) (0, 0) _ _ (by kernel_rfl) (by kernel_rfl) (M.get 1 rfl) Try.underlying26 rfl (by rw [av_size]; exact inz26)) (by kernel_rfl) ⟨by rw [e0, e1, e2, e3, e4, e5, e6, e7, e8, e9], below_grown M.old⟩
  · skip
    refine pl_val (want_no rfl) (some 34) rfl (.bool true) (fun w => Eq.trans (b := .ok (.value (.bool (!(decide ((my v0 h0 l0 v1 h1 l1 (((A ++ (be2 (cv .u64 0))) ++ (B ++ (d.extract 0 (min d.size 1500)))).size : Int)) = 0))))) w) (by kernel_rfl) (by rw [decide_eq_false (c0)]; rfl)) ?_
    refine pl_nil ?_
    refine au_then ?_
    refine wp_cond_true (by kernel_rfl) ?_
    refine wp_seq ?_
    refine rg_lit ?_
    refine pl_val (want_no rfl) (some 35) rfl (.agg (av 9 (ls [.bool false, .int .u64 0, .int .u64 0, .bool false, .int .u64 0, .int .u64 0, .int .u8 0, .int .u8 0, .string ⟨#[]⟩]))) (fun _ => by kernel_rfl) ?_
    refine pl_val (want_no rfl) (some 36) rfl (.int .i64 (my v0 h0 l0 v1 h1 l1 (((A ++ (be2 (cv .u64 0))) ++ (B ++ (d.extract 0 (min d.size 1500)))).size : Int))) (fun _ => by kernel_rfl) ?_
    refine pl_put M (want_no rfl) rfl 26 _ _ rfl 1 g2 0 (by kernel_rfl) 9 26 (ls [.bool false, .int .u64 0, .int .u64 0, .bool false, .int .u64 0, .int .u64 0, .int .u8 0, .int .u8 0, .string ⟨#[]⟩]) rfl 9 (ls [.bool false, .int .u64 0, .int .u64 0, .bool false, .int .u64 0, .int .u64 0, .int .u8 0, .int .u8 0, .string ⟨#[]⟩]) (ls [.bool false, .int .u64 0, .int .u64 0, .bool false, .int .u64 0, .int .u64 0, .int .u8 0, .int .u8 0, .string ⟨#[]⟩]) (by kernel_rfl) inz26 (by decide) (one_ls _ rfl) (fun j hj => by rw [if_pos (by omega), Nat.sub_zero]) ?_
    intro u6 M
    replace M : Mem ⟨w, []⟩ [⟨g1, .cells (av 9 (ls [.int .u8 p, .bool (v0), .int .u64 h0, .int .u64 l0, .bool (v1), .int .u64 h1, .int .u64 l1, .int .u16 f, .int .u16 g])) 29⟩, ⟨g2, .cells (av 9 (ls [.bool false, .int .u64 0, .int .u64 0, .bool false, .int .u64 0, .int .u64 0, .int .u8 0, .int .u8 0, .string ⟨#[]⟩])) 26⟩, ⟨g3, .cells (av 9 (ls [.bool (v0), .int .u64 h0, .int .u64 l0, .bool (v1), .int .u64 h1, .int .u64 l1, .int .u8 p, .int .u8 64, .string ((A ++ (be2 (cv .u64 0))) ++ (B ++ (d.extract 0 (min d.size 1500))))])) 26⟩] u6 := M
    refine pl_val (want_no rfl) (some 9) rfl (.int .i64 (my v0 h0 l0 v1 h1 l1 (((A ++ (be2 (cv .u64 0))) ++ (B ++ (d.extract 0 (min d.size 1500)))).size : Int))) (fun _ => by kernel_rfl) ?_
    refine pl_nil ?_
    refine au_then ?_
    refine wp_ret ?_
    refine au_then_ret ?_
    have e0 : zB (pkE v0 h0 l0 v1 h1 l1 A (B ++ (d.extract 0 (min d.size 1500)))) v0 = false := if_neg c0
    have e1 : (zI (pkE v0 h0 l0 v1 h1 l1 A (B ++ (d.extract 0 (min d.size 1500)))) h0) = 0 := if_neg c0
    have e2 : (zI (pkE v0 h0 l0 v1 h1 l1 A (B ++ (d.extract 0 (min d.size 1500)))) l0) = 0 := if_neg c0
    have e3 : zB (pkE v0 h0 l0 v1 h1 l1 A (B ++ (d.extract 0 (min d.size 1500)))) v1 = false := if_neg c0
    have e4 : (zI (pkE v0 h0 l0 v1 h1 l1 A (B ++ (d.extract 0 (min d.size 1500)))) h1) = 0 := if_neg c0
    have e5 : (zI (pkE v0 h0 l0 v1 h1 l1 A (B ++ (d.extract 0 (min d.size 1500)))) l1) = 0 := if_neg c0
    have e6 : (zI (pkE v0 h0 l0 v1 h1 l1 A (B ++ (d.extract 0 (min d.size 1500)))) p) = 0 := if_neg c0
    have e7 : (zI (pkE v0 h0 l0 v1 h1 l1 A (B ++ (d.extract 0 (min d.size 1500)))) 64) = 0 := if_neg c0
    have e8 : (zS (pkE v0 h0 l0 v1 h1 l1 A (B ++ (d.extract 0 (min d.size 1500)))) (pkO v0 h0 l0 v1 h1 l1 p A (B ++ (d.extract 0 (min d.size 1500))))) = ⟨#[]⟩ := if_neg c0
    have e9 : (pkE v0 h0 l0 v1 h1 l1 A (B ++ (d.extract 0 (min d.size 1500)))) = (my v0 h0 l0 v1 h1 l1 (((A ++ (be2 (cv .u64 0))) ++ (B ++ (d.extract 0 (min d.size 1500)))).size : Int)) := rfl
    exact bodyPost_ret (v := .tuple #[.agg (av 9 (ls [.bool false, .int .u64 0, .int .u64 0, .bool false, .int .u64 0, .int .u64 0, .int .u8 0, .int .u8 0, .string ⟨#[]⟩])), .int .i64 (my v0 h0 l0 v1 h1 l1 (((A ++ (be2 (cv .u64 0))) ++ (B ++ (d.extract 0 (min d.size 1500)))).size : Int))]) (results_cell_tmp Try.results29 _ _ g2 26 (av 9 (ls [.bool false, .int .u64 0, .int .u64 0, .bool false, .int .u64 0, .int .u64 0, .int .u8 0, .int .u8 0, .string ⟨#[]⟩])) (0, 0) _ _ (by kernel_rfl) (by kernel_rfl) (M.get 1 rfl) Try.underlying26 rfl (by rw [av_size]; exact inz26)) (by kernel_rfl) ⟨by rw [e0, e1, e2, e3, e4, e5, e6, e7, e8, e9], below_grown M.old⟩

theorem c_packetOf (v0 : Bool) (h0 l0 : Int) (v1 : Bool) (h1 l1 p : Int) (f g : Int) (A B d : ByteArray) (hA : A.size ≤ 100) (hB : B.size ≤ 100) (hd : d.size ≤ 8192) (hp : 0 ≤ p ∧ p < 256) (w : World) (hL : Laid w) :
    Calls Try.prog 29 #[.agg (av 9 (ls [.int .u8 p, .bool (v0), .int .u64 h0, .int .u64 l0, .bool (v1), .int .u64 h1, .int .u64 l1, .int .u16 f, .int .u16 g])), .string A, .string B, .string d] w fun r w' => r = .returned (.tuple #[.agg (av 9 (ls [.bool (zB (pkE v0 h0 l0 v1 h1 l1 A (B ++ d)) v0), .int .u64 (zI (pkE v0 h0 l0 v1 h1 l1 A (B ++ d)) h0), .int .u64 (zI (pkE v0 h0 l0 v1 h1 l1 A (B ++ d)) l0), .bool (zB (pkE v0 h0 l0 v1 h1 l1 A (B ++ d)) v1), .int .u64 (zI (pkE v0 h0 l0 v1 h1 l1 A (B ++ d)) h1), .int .u64 (zI (pkE v0 h0 l0 v1 h1 l1 A (B ++ d)) l1), .int .u8 (zI (pkE v0 h0 l0 v1 h1 l1 A (B ++ d)) p), .int .u8 (zI (pkE v0 h0 l0 v1 h1 l1 A (B ++ d)) 64), .string (zS (pkE v0 h0 l0 v1 h1 l1 A (B ++ d)) (pkO v0 h0 l0 v1 h1 l1 p A (B ++ d)))])), .int .i64 (pkE v0 h0 l0 v1 h1 l1 A (B ++ d))]) ∧ Below w.heap.size w w' := by
  refine call_val (c_packetT v0 h0 l0 v1 h1 l1 p f g A B d hA hB hd hp w hL) ?_
  by_cases h : d.size ≤ 1500
  · rw [ext_all d h]
  · have hz : (B ++ d.extract 0 (min d.size 1500)).size = B.size + 1500 := by
      rw [ByteArray.size_append, ByteArray.size_extract]
      omega
    obtain ⟨e1, e2⟩ := my_big v0 h0 l0 v1 h1 l1 ((pkD A (B ++ d.extract 0 (min d.size 1500))).size : Int) ((pkD A (B ++ d)).size : Int) (by rw [pkD_size, hz]; omega) (by rw [pkD_size, ByteArray.size_append]; omega)
    have e3 : pkE v0 h0 l0 v1 h1 l1 A (B ++ d.extract 0 (min d.size 1500)) = pkE v0 h0 l0 v1 h1 l1 A (B ++ d) := e1
    have e4 : ¬ pkE v0 h0 l0 v1 h1 l1 A (B ++ d) = 0 := by rw [← e3]; exact e2
    have hn : ∀ x : Int, zI (pkE v0 h0 l0 v1 h1 l1 A (B ++ d)) x = 0 := fun x => if_neg e4
    have hm : ∀ x : Bool, zB (pkE v0 h0 l0 v1 h1 l1 A (B ++ d)) x = false := fun x => if_neg e4
    have ht : ∀ x : ByteArray, zS (pkE v0 h0 l0 v1 h1 l1 A (B ++ d)) x = ⟨#[]⟩ := fun x => if_neg e4
    simp only [e3, hn, hm, ht]
set_option maxRecDepth 100000 in
set_option maxHeartbeats 4000000 in
set_option linter.unusedSimpArgs false in
theorem c_portBytes (p : Int) (v0 : Bool) (h0 l0 : Int) (v1 : Bool) (h1 l1 : Int) (f g : Int) (w : World) (hL : Laid w)  :
    Calls Try.prog 30 #[.agg (av 9 (ls [.int .u8 p, .bool (v0), .int .u64 h0, .int .u64 l0, .bool (v1), .int .u64 h1, .int .u64 l1, .int .u16 f, .int .u16 g]))] w fun r w' => r = .returned (.string (be2 (cv .u64 f) ++ be2 (cv .u64 g))) ∧ Below w.heap.size w w' := by
  go_enter Try.func30, Try.ntmps30
  have M := Mem.start hL
  refine wp_seq ?_
  refine rg_lit ?_
  refine pl_new M (want_no rfl) (some 1) rfl (.cells (av 9 (ls [.int .u8 p, .bool (v0), .int .u64 h0, .int .u64 l0, .bool (v1), .int .u64 h1, .int .u64 l1, .int .u16 f, .int .u16 g])) 29) (fun _ => by kernel_rfl) ?_
  intro g1 u1 M
  replace M : Mem ⟨w, []⟩ [⟨g1, .cells (av 9 (ls [.int .u8 p, .bool (v0), .int .u64 h0, .int .u64 l0, .bool (v1), .int .u64 h1, .int .u64 l1, .int .u16 f, .int .u16 g])) 29⟩] u1 := M
  refine pl_val (want_no rfl) (some 2) rfl (.string ⟨#[]⟩) (fun _ => by kernel_rfl) ?_
  refine pl_nil ?_
  refine au_then ?_
  refine wp_seq ?_
  refine rg_tail M 7 (by kernel_rfl) (by kernel_rfl) ?_
  simp only [List.take_succ_cons, List.take_zero]
  refine k_val (want_no rfl) (some 3) rfl (.pointer (some ⟨g1, 7, none⟩)) (fun _ => by kernel_rfl) ?_
  refine k_cell M (want_no rfl) (some 4) rfl 27 _ rfl g1 7 (by kernel_rfl) (.int .u16 f) (fun _ => by kernel_rfl) (fun w M => M.cell 0 rfl (by decide) rfl) ?_
  refine k_call M (want_no rfl) (some 5) rfl 31 #[.int .u16 f] (.string (be2 (cv .u64 f))) (fun _ => by kernel_rfl) (fun w M => c_U16 f w M.laid) ?_
  refine k_val (want_no rfl) (some 6) rfl (.pointer (some ⟨g1, 8, none⟩)) (fun _ => by kernel_rfl) ?_
  refine k_cell M (want_no rfl) (some 7) rfl 27 _ rfl g1 8 (by kernel_rfl) (.int .u16 g) (fun _ => by kernel_rfl) (fun w M => M.cell 0 rfl (by decide) rfl) ?_
  refine k_call M (want_no rfl) (some 8) rfl 31 #[.int .u16 g] (.string (be2 (cv .u64 g))) (fun _ => by kernel_rfl) (fun w M => c_U16 g w M.laid) ?_
  refine k_val (want_no rfl) (some 9) rfl (.string ((be2 (cv .u64 f)) ++ (be2 (cv .u64 g)))) (run_cat 9 9 _ _ rfl (be2 (cv .u64 f)) (be2 (cv .u64 g)) (by kernel_rfl) (by kernel_rfl) (by (try simp only [ByteArray.size_append, ByteArray.size_extract, be2_size, be4_size, be8_size, bs_size, sz_mk, List.size_toArray, List.length_cons, List.length_nil]); omega)) ?_
  refine kl_nil ?_
  intro u2 M
  replace M : Mem ⟨w, []⟩ [⟨g1, .cells (av 9 (ls [.int .u8 p, .bool (v0), .int .u64 h0, .int .u64 l0, .bool (v1), .int .u64 h1, .int .u64 l1, .int .u16 f, .int .u16 g])) 29⟩] u2 := M
  refine pl_val (want_no rfl) (some 2) rfl (.string ((be2 (cv .u64 f)) ++ (be2 (cv .u64 g)))) (fun _ => by kernel_rfl) ?_
  refine pl_nil ?_
  refine au_then ?_
  refine wp_ret ?_
  have e0 : (be2 (cv .u64 f) ++ be2 (cv .u64 g)) = ((be2 (cv .u64 f)) ++ (be2 (cv .u64 g))) := rfl
  exact bodyPost_ret (v := .string ((be2 (cv .u64 f)) ++ (be2 (cv .u64 g)))) (results_tmp1 Try.results30 _ _ _ (by kernel_rfl)) (by kernel_rfl) ⟨by rw [e0], below_grown M.old⟩

set_option maxRecDepth 100000 in
set_option maxHeartbeats 4000000 in
set_option linter.unusedSimpArgs false in
theorem c_Udp (v0 : Bool) (h0 l0 f : Int) (v1 : Bool) (h1 l1 g : Int) (d : ByteArray) (hd : d.size ≤ 8192) (w : World) (hL : Laid w)  :
    Calls Try.prog 14 #[.agg (av 4 (ls [.bool (v0), .int .u64 h0, .int .u64 l0, .int .u16 f])), .agg (av 4 (ls [.bool (v1), .int .u64 h1, .int .u64 l1, .int .u16 g])), .string d] w fun r w' => r = .returned (.tuple #[.agg (av 9 (ls [.bool (zB (pkE v0 h0 l0 v1 h1 l1 (udA f g (d.size : Int)) d) v0), .int .u64 (zI (pkE v0 h0 l0 v1 h1 l1 (udA f g (d.size : Int)) d) h0), .int .u64 (zI (pkE v0 h0 l0 v1 h1 l1 (udA f g (d.size : Int)) d) l0), .bool (zB (pkE v0 h0 l0 v1 h1 l1 (udA f g (d.size : Int)) d) v1), .int .u64 (zI (pkE v0 h0 l0 v1 h1 l1 (udA f g (d.size : Int)) d) h1), .int .u64 (zI (pkE v0 h0 l0 v1 h1 l1 (udA f g (d.size : Int)) d) l1), .int .u8 (zI (pkE v0 h0 l0 v1 h1 l1 (udA f g (d.size : Int)) d) 17), .int .u8 (zI (pkE v0 h0 l0 v1 h1 l1 (udA f g (d.size : Int)) d) 64), .string (zS (pkE v0 h0 l0 v1 h1 l1 (udA f g (d.size : Int)) d) (pkO v0 h0 l0 v1 h1 l1 17 (udA f g (d.size : Int)) d))])), .int .i64 (pkE v0 h0 l0 v1 h1 l1 (udA f g (d.size : Int)) d)]) ∧ Below w.heap.size w w' := by
  go_enter Try.func14, Try.ntmps14
  have M := Mem.start hL
  refine wp_seq ?_
  refine rg_lit ?_
  refine pl_new M (want_no rfl) (some 3) rfl (.cells (av 4 (ls [.bool (v0), .int .u64 h0, .int .u64 l0, .int .u16 f])) 40) (fun _ => by kernel_rfl) ?_
  intro g1 u1 M
  replace M : Mem ⟨w, []⟩ [⟨g1, .cells (av 4 (ls [.bool (v0), .int .u64 h0, .int .u64 l0, .int .u16 f])) 40⟩] u1 := M
  refine pl_new M (want_no rfl) (some 4) rfl (.cells (av 4 (ls [.bool (v1), .int .u64 h1, .int .u64 l1, .int .u16 g])) 40) (fun _ => by kernel_rfl) ?_
  intro g2 u2 M
  replace M : Mem ⟨w, []⟩ [⟨g1, .cells (av 4 (ls [.bool (v0), .int .u64 h0, .int .u64 l0, .int .u16 f])) 40⟩, ⟨g2, .cells (av 4 (ls [.bool (v1), .int .u64 h1, .int .u64 l1, .int .u16 g])) 40⟩] u2 := M
  refine pl_new M (want_no rfl) (some 6) rfl (.cells (av 9 (ls [.bool false, .int .u64 0, .int .u64 0, .bool false, .int .u64 0, .int .u64 0, .int .u8 0, .int .u8 0, .string ⟨#[]⟩])) 26) (fun _ => by kernel_rfl) ?_
  intro g3 u3 M
  replace M : Mem ⟨w, []⟩ [⟨g1, .cells (av 4 (ls [.bool (v0), .int .u64 h0, .int .u64 l0, .int .u16 f])) 40⟩, ⟨g2, .cells (av 4 (ls [.bool (v1), .int .u64 h1, .int .u64 l1, .int .u16 g])) 40⟩, ⟨g3, .cells (av 9 (ls [.bool false, .int .u64 0, .int .u64 0, .bool false, .int .u64 0, .int .u64 0, .int .u8 0, .int .u8 0, .string ⟨#[]⟩])) 26⟩] u3 := M
  refine pl_val (want_no rfl) (some 7) rfl (.int .i64 0) (fun _ => by kernel_rfl) ?_
  refine pl_nil ?_
  refine au_then ?_
  refine wp_seq ?_
  refine rg_lit ?_
  refine pl_load M (want_no rfl) (some 9) rfl 40 _ rfl 0 g1 0 (by kernel_rfl) 4 40 (ls [.bool (v0), .int .u64 h0, .int .u64 l0, .int .u16 f]) rfl 4 (ls [.bool (v0), .int .u64 h0, .int .u64 l0, .int .u16 f]) (fun j _ => by rw [Nat.zero_add]) (by decide) _ Try.underlying40 rfl inz40 ?_
  refine pl_load M (want_no rfl) (some 10) rfl 40 _ rfl 1 g2 0 (by kernel_rfl) 4 40 (ls [.bool (v1), .int .u64 h1, .int .u64 l1, .int .u16 g]) rfl 4 (ls [.bool (v1), .int .u64 h1, .int .u64 l1, .int .u16 g]) (fun j _ => by rw [Nat.zero_add]) (by decide) _ Try.underlying40 rfl inz40 ?_
  refine pl_call M (want_no rfl) (some 11) rfl 28 #[.int .u8 17, .agg (av 4 (ls [.bool (v0), .int .u64 h0, .int .u64 l0, .int .u16 f])), .agg (av 4 (ls [.bool (v1), .int .u64 h1, .int .u64 l1, .int .u16 g]))] (.agg (av 9 (ls [.int .u8 17, .bool (v0), .int .u64 h0, .int .u64 l0, .bool (v1), .int .u64 h1, .int .u64 l1, .int .u16 f, .int .u16 g]))) (fun _ => by kernel_rfl) (fun w M => c_flowOf 17 v0 h0 l0 f v1 h1 l1 g w M.laid) ?_
  intro u4 M
  refine pl_new M (want_no rfl) (some 8) rfl (.cells (av 9 (ls [.int .u8 0, .bool false, .int .u64 0, .int .u64 0, .bool false, .int .u64 0, .int .u64 0, .int .u16 0, .int .u16 0])) 29) (fun _ => by kernel_rfl) ?_
  intro g4 u5 M
  replace M : Mem ⟨w, []⟩ [⟨g1, .cells (av 4 (ls [.bool (v0), .int .u64 h0, .int .u64 l0, .int .u16 f])) 40⟩, ⟨g2, .cells (av 4 (ls [.bool (v1), .int .u64 h1, .int .u64 l1, .int .u16 g])) 40⟩, ⟨g3, .cells (av 9 (ls [.bool false, .int .u64 0, .int .u64 0, .bool false, .int .u64 0, .int .u64 0, .int .u8 0, .int .u8 0, .string ⟨#[]⟩])) 26⟩, ⟨g4, .cells (av 9 (ls [.int .u8 0, .bool false, .int .u64 0, .int .u64 0, .bool false, .int .u64 0, .int .u64 0, .int .u16 0, .int .u16 0])) 29⟩] u5 := M
  refine pl_put M (want_no rfl) rfl 29 _ _ rfl 3 g4 0 (by kernel_rfl) 9 29 (ls [.int .u8 0, .bool false, .int .u64 0, .int .u64 0, .bool false, .int .u64 0, .int .u64 0, .int .u16 0, .int .u16 0]) rfl 9 (ls [.int .u8 17, .bool (v0), .int .u64 h0, .int .u64 l0, .bool (v1), .int .u64 h1, .int .u64 l1, .int .u16 f, .int .u16 g]) (ls [.int .u8 17, .bool (v0), .int .u64 h0, .int .u64 l0, .bool (v1), .int .u64 h1, .int .u64 l1, .int .u16 f, .int .u16 g]) (by kernel_rfl) inz29 (by decide) (one_ls _ rfl) (fun j hj => by rw [if_pos (by omega), Nat.sub_zero]) ?_
  intro u6 M
  replace M : Mem ⟨w, []⟩ [⟨g1, .cells (av 4 (ls [.bool (v0), .int .u64 h0, .int .u64 l0, .int .u16 f])) 40⟩, ⟨g2, .cells (av 4 (ls [.bool (v1), .int .u64 h1, .int .u64 l1, .int .u16 g])) 40⟩, ⟨g3, .cells (av 9 (ls [.bool false, .int .u64 0, .int .u64 0, .bool false, .int .u64 0, .int .u64 0, .int .u8 0, .int .u8 0, .string ⟨#[]⟩])) 26⟩, ⟨g4, .cells (av 9 (ls [.int .u8 17, .bool (v0), .int .u64 h0, .int .u64 l0, .bool (v1), .int .u64 h1, .int .u64 l1, .int .u16 f, .int .u16 g])) 29⟩] u6 := M
  refine pl_nil ?_
  refine au_then ?_
  refine wp_seq ?_
  refine rg_tail M 13 (by kernel_rfl) (by kernel_rfl) ?_
  simp only [List.take_succ_cons, List.take_zero]
  refine k_load M (want_no rfl) (some 12) rfl 29 _ rfl 3 g4 0 (by kernel_rfl) 9 29 (ls [.int .u8 17, .bool (v0), .int .u64 h0, .int .u64 l0, .bool (v1), .int .u64 h1, .int .u64 l1, .int .u16 f, .int .u16 g]) rfl 9 (ls [.int .u8 17, .bool (v0), .int .u64 h0, .int .u64 l0, .bool (v1), .int .u64 h1, .int .u64 l1, .int .u16 f, .int .u16 g]) (fun j _ => by rw [Nat.zero_add]) (by decide) _ Try.underlying29 rfl inz29 ?_
  refine k_load M (want_no rfl) (some 13) rfl 29 _ rfl 3 g4 0 (by kernel_rfl) 9 29 (ls [.int .u8 17, .bool (v0), .int .u64 h0, .int .u64 l0, .bool (v1), .int .u64 h1, .int .u64 l1, .int .u16 f, .int .u16 g]) rfl 9 (ls [.int .u8 17, .bool (v0), .int .u64 h0, .int .u64 l0, .bool (v1), .int .u64 h1, .int .u64 l1, .int .u16 f, .int .u16 g]) (fun j _ => by rw [Nat.zero_add]) (by decide) _ Try.underlying29 rfl inz29 ?_
  refine k_call M (want_no rfl) (some 14) rfl 30 #[.agg (av 9 (ls [.int .u8 17, .bool (v0), .int .u64 h0, .int .u64 l0, .bool (v1), .int .u64 h1, .int .u64 l1, .int .u16 f, .int .u16 g]))] (.string (be2 (cv .u64 f) ++ be2 (cv .u64 g))) (fun _ => by kernel_rfl) (fun w M => c_portBytes 17 v0 h0 l0 v1 h1 l1 f g w M.laid) ?_
  refine k_val (want_no rfl) (some 15) rfl (.string d) (fun _ => by kernel_rfl) ?_
  refine k_val (want_no rfl) (some 16) rfl (.int .i64 (d.size : Int)) (fun _ => by kernel_rfl) ?_
  refine k_val (want_no rfl) (some 17) rfl (.int .i64 (8 + (d.size : Int))) (fun w => Eq.trans (b := .ok (.value (.int .i64 (IntKind.wrap .i64 (8 + (d.size : Int))))) w) (by kernel_rfl) (by rw [wrap64 (by omega) (by omega)])) ?_
  refine k_val (want_no rfl) (some 18) rfl (.int .u16 (cv .u16 (8 + (d.size : Int)))) (fun _ => by kernel_rfl) ?_
  refine k_call M (want_no rfl) (some 19) rfl 31 #[.int .u16 (cv .u16 (8 + (d.size : Int)))] (.string (be2 (cv .u64 (cv .u16 (8 + (d.size : Int)))))) (fun _ => by kernel_rfl) (fun w M => c_U16 (cv .u16 (8 + (d.size : Int))) w M.laid) ?_
  refine k_val (want_no rfl) (some 20) rfl (.string ((be2 (cv .u64 f) ++ be2 (cv .u64 g)) ++ (be2 (cv .u64 (cv .u16 (8 + (d.size : Int))))))) (run_cat 9 9 _ _ rfl (be2 (cv .u64 f) ++ be2 (cv .u64 g)) (be2 (cv .u64 (cv .u16 (8 + (d.size : Int))))) (by kernel_rfl) (by kernel_rfl) (by (try simp only [ByteArray.size_append, ByteArray.size_extract, be2_size, be4_size, be8_size, bs_size, sz_mk, List.size_toArray, List.length_cons, List.length_nil]); omega)) ?_
  refine k_val (want_no rfl) (some 21) rfl (.string d) (fun _ => by kernel_rfl) ?_
  refine k_call M (want_no rfl) (some 22) rfl 29 #[.agg (av 9 (ls [.int .u8 17, .bool (v0), .int .u64 h0, .int .u64 l0, .bool (v1), .int .u64 h1, .int .u64 l1, .int .u16 f, .int .u16 g])), .string ((be2 (cv .u64 f) ++ be2 (cv .u64 g)) ++ (be2 (cv .u64 (cv .u16 (8 + (d.size : Int)))))), .string ⟨#[]⟩, .string d] (.tuple #[.agg (av 9 (ls [.bool (zB (pkE v0 h0 l0 v1 h1 l1 (udA f g (d.size : Int)) d) v0), .int .u64 (zI (pkE v0 h0 l0 v1 h1 l1 (udA f g (d.size : Int)) d) h0), .int .u64 (zI (pkE v0 h0 l0 v1 h1 l1 (udA f g (d.size : Int)) d) l0), .bool (zB (pkE v0 h0 l0 v1 h1 l1 (udA f g (d.size : Int)) d) v1), .int .u64 (zI (pkE v0 h0 l0 v1 h1 l1 (udA f g (d.size : Int)) d) h1), .int .u64 (zI (pkE v0 h0 l0 v1 h1 l1 (udA f g (d.size : Int)) d) l1), .int .u8 (zI (pkE v0 h0 l0 v1 h1 l1 (udA f g (d.size : Int)) d) 17), .int .u8 (zI (pkE v0 h0 l0 v1 h1 l1 (udA f g (d.size : Int)) d) 64), .string (zS (pkE v0 h0 l0 v1 h1 l1 (udA f g (d.size : Int)) d) (pkO v0 h0 l0 v1 h1 l1 17 (udA f g (d.size : Int)) d))])), .int .i64 (pkE v0 h0 l0 v1 h1 l1 (udA f g (d.size : Int)) d)]) (fun _ => by kernel_rfl) (fun w M => call_val (c_packetOf v0 h0 l0 v1 h1 l1 17 f g ((be2 (cv .u64 f) ++ be2 (cv .u64 g)) ++ (be2 (cv .u64 (cv .u16 (8 + (d.size : Int)))))) (⟨#[]⟩ : ByteArray) d (by (try simp only [ByteArray.size_append, ByteArray.size_extract, be2_size, be4_size, be8_size, bs_size, sz_mk, List.size_toArray, List.length_cons, List.length_nil]); omega) (by (try simp only [ByteArray.size_append, ByteArray.size_extract, be2_size, be4_size, be8_size, bs_size, sz_mk, List.size_toArray, List.length_cons, List.length_nil]); omega) (by omega) (by omega) w M.laid) (by rw [nil_app, be2_16]; rfl)) ?_
  refine k_val (want_no rfl) (some 23) rfl (.agg (av 9 (ls [.bool (zB (pkE v0 h0 l0 v1 h1 l1 (udA f g (d.size : Int)) d) v0), .int .u64 (zI (pkE v0 h0 l0 v1 h1 l1 (udA f g (d.size : Int)) d) h0), .int .u64 (zI (pkE v0 h0 l0 v1 h1 l1 (udA f g (d.size : Int)) d) l0), .bool (zB (pkE v0 h0 l0 v1 h1 l1 (udA f g (d.size : Int)) d) v1), .int .u64 (zI (pkE v0 h0 l0 v1 h1 l1 (udA f g (d.size : Int)) d) h1), .int .u64 (zI (pkE v0 h0 l0 v1 h1 l1 (udA f g (d.size : Int)) d) l1), .int .u8 (zI (pkE v0 h0 l0 v1 h1 l1 (udA f g (d.size : Int)) d) 17), .int .u8 (zI (pkE v0 h0 l0 v1 h1 l1 (udA f g (d.size : Int)) d) 64), .string (zS (pkE v0 h0 l0 v1 h1 l1 (udA f g (d.size : Int)) d) (pkO v0 h0 l0 v1 h1 l1 17 (udA f g (d.size : Int)) d))]))) (fun _ => by kernel_rfl) ?_
  refine k_val (want_no rfl) (some 24) rfl (.int .i64 (pkE v0 h0 l0 v1 h1 l1 (udA f g (d.size : Int)) d)) (fun _ => by kernel_rfl) ?_
  refine kl_nil ?_
  intro u7 M
  replace M : Mem ⟨w, []⟩ [⟨g1, .cells (av 4 (ls [.bool (v0), .int .u64 h0, .int .u64 l0, .int .u16 f])) 40⟩, ⟨g2, .cells (av 4 (ls [.bool (v1), .int .u64 h1, .int .u64 l1, .int .u16 g])) 40⟩, ⟨g3, .cells (av 9 (ls [.bool false, .int .u64 0, .int .u64 0, .bool false, .int .u64 0, .int .u64 0, .int .u8 0, .int .u8 0, .string ⟨#[]⟩])) 26⟩, ⟨g4, .cells (av 9 (ls [.int .u8 17, .bool (v0), .int .u64 h0, .int .u64 l0, .bool (v1), .int .u64 h1, .int .u64 l1, .int .u16 f, .int .u16 g])) 29⟩] u7 := M
  refine pl_put M (want_no rfl) rfl 26 _ _ rfl 2 g3 0 (by kernel_rfl) 9 26 (ls [.bool false, .int .u64 0, .int .u64 0, .bool false, .int .u64 0, .int .u64 0, .int .u8 0, .int .u8 0, .string ⟨#[]⟩]) rfl 9 (ls [.bool (zB (pkE v0 h0 l0 v1 h1 l1 (udA f g (d.size : Int)) d) v0), .int .u64 (zI (pkE v0 h0 l0 v1 h1 l1 (udA f g (d.size : Int)) d) h0), .int .u64 (zI (pkE v0 h0 l0 v1 h1 l1 (udA f g (d.size : Int)) d) l0), .bool (zB (pkE v0 h0 l0 v1 h1 l1 (udA f g (d.size : Int)) d) v1), .int .u64 (zI (pkE v0 h0 l0 v1 h1 l1 (udA f g (d.size : Int)) d) h1), .int .u64 (zI (pkE v0 h0 l0 v1 h1 l1 (udA f g (d.size : Int)) d) l1), .int .u8 (zI (pkE v0 h0 l0 v1 h1 l1 (udA f g (d.size : Int)) d) 17), .int .u8 (zI (pkE v0 h0 l0 v1 h1 l1 (udA f g (d.size : Int)) d) 64), .string (zS (pkE v0 h0 l0 v1 h1 l1 (udA f g (d.size : Int)) d) (pkO v0 h0 l0 v1 h1 l1 17 (udA f g (d.size : Int)) d))]) (ls [.bool (zB (pkE v0 h0 l0 v1 h1 l1 (udA f g (d.size : Int)) d) v0), .int .u64 (zI (pkE v0 h0 l0 v1 h1 l1 (udA f g (d.size : Int)) d) h0), .int .u64 (zI (pkE v0 h0 l0 v1 h1 l1 (udA f g (d.size : Int)) d) l0), .bool (zB (pkE v0 h0 l0 v1 h1 l1 (udA f g (d.size : Int)) d) v1), .int .u64 (zI (pkE v0 h0 l0 v1 h1 l1 (udA f g (d.size : Int)) d) h1), .int .u64 (zI (pkE v0 h0 l0 v1 h1 l1 (udA f g (d.size : Int)) d) l1), .int .u8 (zI (pkE v0 h0 l0 v1 h1 l1 (udA f g (d.size : Int)) d) 17), .int .u8 (zI (pkE v0 h0 l0 v1 h1 l1 (udA f g (d.size : Int)) d) 64), .string (zS (pkE v0 h0 l0 v1 h1 l1 (udA f g (d.size : Int)) d) (pkO v0 h0 l0 v1 h1 l1 17 (udA f g (d.size : Int)) d))]) (by kernel_rfl) inz26 (by decide) (one_ls _ rfl) (fun j hj => by rw [if_pos (by omega), Nat.sub_zero]) ?_
  intro u8 M
  replace M : Mem ⟨w, []⟩ [⟨g1, .cells (av 4 (ls [.bool (v0), .int .u64 h0, .int .u64 l0, .int .u16 f])) 40⟩, ⟨g2, .cells (av 4 (ls [.bool (v1), .int .u64 h1, .int .u64 l1, .int .u16 g])) 40⟩, ⟨g3, .cells (av 9 (ls [.bool (zB (pkE v0 h0 l0 v1 h1 l1 (udA f g (d.size : Int)) d) v0), .int .u64 (zI (pkE v0 h0 l0 v1 h1 l1 (udA f g (d.size : Int)) d) h0), .int .u64 (zI (pkE v0 h0 l0 v1 h1 l1 (udA f g (d.size : Int)) d) l0), .bool (zB (pkE v0 h0 l0 v1 h1 l1 (udA f g (d.size : Int)) d) v1), .int .u64 (zI (pkE v0 h0 l0 v1 h1 l1 (udA f g (d.size : Int)) d) h1), .int .u64 (zI (pkE v0 h0 l0 v1 h1 l1 (udA f g (d.size : Int)) d) l1), .int .u8 (zI (pkE v0 h0 l0 v1 h1 l1 (udA f g (d.size : Int)) d) 17), .int .u8 (zI (pkE v0 h0 l0 v1 h1 l1 (udA f g (d.size : Int)) d) 64), .string (zS (pkE v0 h0 l0 v1 h1 l1 (udA f g (d.size : Int)) d) (pkO v0 h0 l0 v1 h1 l1 17 (udA f g (d.size : Int)) d))])) 26⟩, ⟨g4, .cells (av 9 (ls [.int .u8 17, .bool (v0), .int .u64 h0, .int .u64 l0, .bool (v1), .int .u64 h1, .int .u64 l1, .int .u16 f, .int .u16 g])) 29⟩] u8 := M
  refine pl_val (want_no rfl) (some 7) rfl (.int .i64 (pkE v0 h0 l0 v1 h1 l1 (udA f g (d.size : Int)) d)) (fun _ => by kernel_rfl) ?_
  refine pl_nil ?_
  refine au_then ?_
  refine wp_ret ?_
  exact bodyPost_ret (v := .tuple #[.agg (av 9 (ls [.bool (zB (pkE v0 h0 l0 v1 h1 l1 (udA f g (d.size : Int)) d) v0), .int .u64 (zI (pkE v0 h0 l0 v1 h1 l1 (udA f g (d.size : Int)) d) h0), .int .u64 (zI (pkE v0 h0 l0 v1 h1 l1 (udA f g (d.size : Int)) d) l0), .bool (zB (pkE v0 h0 l0 v1 h1 l1 (udA f g (d.size : Int)) d) v1), .int .u64 (zI (pkE v0 h0 l0 v1 h1 l1 (udA f g (d.size : Int)) d) h1), .int .u64 (zI (pkE v0 h0 l0 v1 h1 l1 (udA f g (d.size : Int)) d) l1), .int .u8 (zI (pkE v0 h0 l0 v1 h1 l1 (udA f g (d.size : Int)) d) 17), .int .u8 (zI (pkE v0 h0 l0 v1 h1 l1 (udA f g (d.size : Int)) d) 64), .string (zS (pkE v0 h0 l0 v1 h1 l1 (udA f g (d.size : Int)) d) (pkO v0 h0 l0 v1 h1 l1 17 (udA f g (d.size : Int)) d))])), .int .i64 (pkE v0 h0 l0 v1 h1 l1 (udA f g (d.size : Int)) d)]) (results_cell_tmp Try.results14 _ _ g3 26 (av 9 (ls [.bool (zB (pkE v0 h0 l0 v1 h1 l1 (udA f g (d.size : Int)) d) v0), .int .u64 (zI (pkE v0 h0 l0 v1 h1 l1 (udA f g (d.size : Int)) d) h0), .int .u64 (zI (pkE v0 h0 l0 v1 h1 l1 (udA f g (d.size : Int)) d) l0), .bool (zB (pkE v0 h0 l0 v1 h1 l1 (udA f g (d.size : Int)) d) v1), .int .u64 (zI (pkE v0 h0 l0 v1 h1 l1 (udA f g (d.size : Int)) d) h1), .int .u64 (zI (pkE v0 h0 l0 v1 h1 l1 (udA f g (d.size : Int)) d) l1), .int .u8 (zI (pkE v0 h0 l0 v1 h1 l1 (udA f g (d.size : Int)) d) 17), .int .u8 (zI (pkE v0 h0 l0 v1 h1 l1 (udA f g (d.size : Int)) d) 64), .string (zS (pkE v0 h0 l0 v1 h1 l1 (udA f g (d.size : Int)) d) (pkO v0 h0 l0 v1 h1 l1 17 (udA f g (d.size : Int)) d))])) (0, 0) _ _ (by kernel_rfl) (by kernel_rfl) (M.get 2 rfl) Try.underlying26 rfl (by rw [av_size]; exact inz26)) (by kernel_rfl) ⟨rfl, below_grown M.old⟩

set_option maxRecDepth 100000 in
set_option maxHeartbeats 4000000 in
set_option linter.unusedSimpArgs false in
theorem c_Tcp (v0 : Bool) (h0 l0 f : Int) (v1 : Bool) (h1 l1 g : Int) (q : Int) (d : ByteArray) (hd : d.size ≤ 8192) (hq : 0 ≤ q ∧ q < 256) (w : World) (hL : Laid w)  :
    Calls Try.prog 16 #[.agg (av 4 (ls [.bool (v0), .int .u64 h0, .int .u64 l0, .int .u16 f])), .agg (av 4 (ls [.bool (v1), .int .u64 h1, .int .u64 l1, .int .u16 g])), .int .u8 q, .string d] w fun r w' => r = .returned (.tuple #[.agg (av 9 (ls [.bool (zB (pkE v0 h0 l0 v1 h1 l1 (tcA f g q) (tcB d)) v0), .int .u64 (zI (pkE v0 h0 l0 v1 h1 l1 (tcA f g q) (tcB d)) h0), .int .u64 (zI (pkE v0 h0 l0 v1 h1 l1 (tcA f g q) (tcB d)) l0), .bool (zB (pkE v0 h0 l0 v1 h1 l1 (tcA f g q) (tcB d)) v1), .int .u64 (zI (pkE v0 h0 l0 v1 h1 l1 (tcA f g q) (tcB d)) h1), .int .u64 (zI (pkE v0 h0 l0 v1 h1 l1 (tcA f g q) (tcB d)) l1), .int .u8 (zI (pkE v0 h0 l0 v1 h1 l1 (tcA f g q) (tcB d)) 6), .int .u8 (zI (pkE v0 h0 l0 v1 h1 l1 (tcA f g q) (tcB d)) 64), .string (zS (pkE v0 h0 l0 v1 h1 l1 (tcA f g q) (tcB d)) (pkO v0 h0 l0 v1 h1 l1 6 (tcA f g q) (tcB d)))])), .int .i64 (pkE v0 h0 l0 v1 h1 l1 (tcA f g q) (tcB d))]) ∧ Below w.heap.size w w' := by
  go_enter Try.func16, Try.ntmps16
  have M := Mem.start hL
  refine wp_seq ?_
  refine rg_lit ?_
  refine pl_new M (want_no rfl) (some 4) rfl (.cells (av 4 (ls [.bool (v0), .int .u64 h0, .int .u64 l0, .int .u16 f])) 40) (fun _ => by kernel_rfl) ?_
  intro g1 u1 M
  replace M : Mem ⟨w, []⟩ [⟨g1, .cells (av 4 (ls [.bool (v0), .int .u64 h0, .int .u64 l0, .int .u16 f])) 40⟩] u1 := M
  refine pl_new M (want_no rfl) (some 5) rfl (.cells (av 4 (ls [.bool (v1), .int .u64 h1, .int .u64 l1, .int .u16 g])) 40) (fun _ => by kernel_rfl) ?_
  intro g2 u2 M
  replace M : Mem ⟨w, []⟩ [⟨g1, .cells (av 4 (ls [.bool (v0), .int .u64 h0, .int .u64 l0, .int .u16 f])) 40⟩, ⟨g2, .cells (av 4 (ls [.bool (v1), .int .u64 h1, .int .u64 l1, .int .u16 g])) 40⟩] u2 := M
  refine pl_new M (want_no rfl) (some 8) rfl (.cells (av 9 (ls [.bool false, .int .u64 0, .int .u64 0, .bool false, .int .u64 0, .int .u64 0, .int .u8 0, .int .u8 0, .string ⟨#[]⟩])) 26) (fun _ => by kernel_rfl) ?_
  intro g3 u3 M
  replace M : Mem ⟨w, []⟩ [⟨g1, .cells (av 4 (ls [.bool (v0), .int .u64 h0, .int .u64 l0, .int .u16 f])) 40⟩, ⟨g2, .cells (av 4 (ls [.bool (v1), .int .u64 h1, .int .u64 l1, .int .u16 g])) 40⟩, ⟨g3, .cells (av 9 (ls [.bool false, .int .u64 0, .int .u64 0, .bool false, .int .u64 0, .int .u64 0, .int .u8 0, .int .u8 0, .string ⟨#[]⟩])) 26⟩] u3 := M
  refine pl_val (want_no rfl) (some 9) rfl (.int .i64 0) (fun _ => by kernel_rfl) ?_
  refine pl_nil ?_
  refine au_then ?_
  refine wp_seq ?_
  refine rg_lit ?_
  refine pl_load M (want_no rfl) (some 12) rfl 40 _ rfl 0 g1 0 (by kernel_rfl) 4 40 (ls [.bool (v0), .int .u64 h0, .int .u64 l0, .int .u16 f]) rfl 4 (ls [.bool (v0), .int .u64 h0, .int .u64 l0, .int .u16 f]) (fun j _ => by rw [Nat.zero_add]) (by decide) _ Try.underlying40 rfl inz40 ?_
  refine pl_load M (want_no rfl) (some 13) rfl 40 _ rfl 1 g2 0 (by kernel_rfl) 4 40 (ls [.bool (v1), .int .u64 h1, .int .u64 l1, .int .u16 g]) rfl 4 (ls [.bool (v1), .int .u64 h1, .int .u64 l1, .int .u16 g]) (fun j _ => by rw [Nat.zero_add]) (by decide) _ Try.underlying40 rfl inz40 ?_
  refine pl_call M (want_no rfl) (some 14) rfl 28 #[.int .u8 6, .agg (av 4 (ls [.bool (v0), .int .u64 h0, .int .u64 l0, .int .u16 f])), .agg (av 4 (ls [.bool (v1), .int .u64 h1, .int .u64 l1, .int .u16 g]))] (.agg (av 9 (ls [.int .u8 6, .bool (v0), .int .u64 h0, .int .u64 l0, .bool (v1), .int .u64 h1, .int .u64 l1, .int .u16 f, .int .u16 g]))) (fun _ => by kernel_rfl) (fun w M => c_flowOf 6 v0 h0 l0 f v1 h1 l1 g w M.laid) ?_
  intro u4 M
  refine pl_new M (want_no rfl) (some 10) rfl (.cells (av 9 (ls [.int .u8 0, .bool false, .int .u64 0, .int .u64 0, .bool false, .int .u64 0, .int .u64 0, .int .u16 0, .int .u16 0])) 29) (fun _ => by kernel_rfl) ?_
  intro g4 u5 M
  replace M : Mem ⟨w, []⟩ [⟨g1, .cells (av 4 (ls [.bool (v0), .int .u64 h0, .int .u64 l0, .int .u16 f])) 40⟩, ⟨g2, .cells (av 4 (ls [.bool (v1), .int .u64 h1, .int .u64 l1, .int .u16 g])) 40⟩, ⟨g3, .cells (av 9 (ls [.bool false, .int .u64 0, .int .u64 0, .bool false, .int .u64 0, .int .u64 0, .int .u8 0, .int .u8 0, .string ⟨#[]⟩])) 26⟩, ⟨g4, .cells (av 9 (ls [.int .u8 0, .bool false, .int .u64 0, .int .u64 0, .bool false, .int .u64 0, .int .u64 0, .int .u16 0, .int .u16 0])) 29⟩] u5 := M
  refine pl_put M (want_no rfl) rfl 29 _ _ rfl 3 g4 0 (by kernel_rfl) 9 29 (ls [.int .u8 0, .bool false, .int .u64 0, .int .u64 0, .bool false, .int .u64 0, .int .u64 0, .int .u16 0, .int .u16 0]) rfl 9 (ls [.int .u8 6, .bool (v0), .int .u64 h0, .int .u64 l0, .bool (v1), .int .u64 h1, .int .u64 l1, .int .u16 f, .int .u16 g]) (ls [.int .u8 6, .bool (v0), .int .u64 h0, .int .u64 l0, .bool (v1), .int .u64 h1, .int .u64 l1, .int .u16 f, .int .u16 g]) (by kernel_rfl) inz29 (by decide) (one_ls _ rfl) (fun j hj => by rw [if_pos (by omega), Nat.sub_zero]) ?_
  intro u6 M
  replace M : Mem ⟨w, []⟩ [⟨g1, .cells (av 4 (ls [.bool (v0), .int .u64 h0, .int .u64 l0, .int .u16 f])) 40⟩, ⟨g2, .cells (av 4 (ls [.bool (v1), .int .u64 h1, .int .u64 l1, .int .u16 g])) 40⟩, ⟨g3, .cells (av 9 (ls [.bool false, .int .u64 0, .int .u64 0, .bool false, .int .u64 0, .int .u64 0, .int .u8 0, .int .u8 0, .string ⟨#[]⟩])) 26⟩, ⟨g4, .cells (av 9 (ls [.int .u8 6, .bool (v0), .int .u64 h0, .int .u64 l0, .bool (v1), .int .u64 h1, .int .u64 l1, .int .u16 f, .int .u16 g])) 29⟩] u6 := M
  refine pl_nil ?_
  refine au_then ?_
  refine wp_seq ?_
  refine rg_held M [⟨g1, .cells (av 4 (ls [.bool (v0), .int .u64 h0, .int .u64 l0, .int .u16 f])) 40⟩, ⟨g2, .cells (av 4 (ls [.bool (v1), .int .u64 h1, .int .u64 l1, .int .u16 g])) 40⟩, ⟨g3, .cells (av 9 (ls [.bool false, .int .u64 0, .int .u64 0, .bool false, .int .u64 0, .int .u64 0, .int .u8 0, .int .u8 0, .string ⟨#[]⟩])) 26⟩, ⟨g4, .cells (av 9 (ls [.int .u8 6, .bool (v0), .int .u64 h0, .int .u64 l0, .bool (v1), .int .u64 h1, .int .u64 l1, .int .u16 f, .int .u16 g])) 29⟩] 10 rfl (by kernel_rfl) (by kernel_rfl) (fun _ _ d _ _ h => by cases d <;> exact h) ?_
  intro u7 M
  replace M : Mem ⟨w, []⟩ [⟨g1, .cells (av 4 (ls [.bool (v0), .int .u64 h0, .int .u64 l0, .int .u16 f])) 40⟩, ⟨g2, .cells (av 4 (ls [.bool (v1), .int .u64 h1, .int .u64 l1, .int .u16 g])) 40⟩, ⟨g3, .cells (av 9 (ls [.bool false, .int .u64 0, .int .u64 0, .bool false, .int .u64 0, .int .u64 0, .int .u8 0, .int .u8 0, .string ⟨#[]⟩])) 26⟩, ⟨g4, .cells (av 9 (ls [.int .u8 6, .bool (v0), .int .u64 h0, .int .u64 l0, .bool (v1), .int .u64 h1, .int .u64 l1, .int .u16 f, .int .u16 g])) 29⟩] u7 := M
  refine hl_load M 0 rfl (by decide) (by kernel_rfl) (by kernel_rfl) (want_no rfl) (some 15) rfl 29 _ rfl 3 g4 0 (by kernel_rfl) 9 29 (ls [.int .u8 6, .bool (v0), .int .u64 h0, .int .u64 l0, .bool (v1), .int .u64 h1, .int .u64 l1, .int .u16 f, .int .u16 g]) rfl 9 (ls [.int .u8 6, .bool (v0), .int .u64 h0, .int .u64 l0, .bool (v1), .int .u64 h1, .int .u64 l1, .int .u16 f, .int .u16 g]) (fun j _ => by rw [Nat.zero_add]) (by decide) _ Try.underlying29 rfl inz29 ?_
  refine hl_val M 6 rfl (by decide) (by kernel_rfl) (by kernel_rfl) (want_no rfl) (some 21) rfl (.int .u8 q) (fun _ _ => by kernel_rfl) ?_
  refine hl_name ?_
  intro H hA hB
  have s11 : ∀ (a : Act) (l : Array Bool) (x_22 : Value) (w0 : World), a = ⟨#[.agg (av 4 (ls [.bool (v0), .int .u64 h0, .int .u64 l0, .int .u16 f])), .agg (av 4 (ls [.bool (v1), .int .u64 h1, .int .u64 l1, .int .u16 g])), .int .u8 q, .string d, .pointer (some ⟨g1, 0, none⟩), .pointer (some ⟨g2, 0, none⟩), undef, undef, .pointer (some ⟨g3, 0, none⟩), .int .i64 0, .pointer (some ⟨g4, 0, none⟩), undef, .agg (av 4 (ls [.bool (v0), .int .u64 h0, .int .u64 l0, .int .u16 f])), .agg (av 4 (ls [.bool (v1), .int .u64 h1, .int .u64 l1, .int .u16 g])), .agg (av 9 (ls [.int .u8 6, .bool (v0), .int .u64 h0, .int .u64 l0, .bool (v1), .int .u64 h1, .int .u64 l1, .int .u16 f, .int .u16 g])), .agg (av 9 (ls [.int .u8 6, .bool (v0), .int .u64 h0, .int .u64 l0, .bool (v1), .int .u64 h1, .int .u64 l1, .int .u16 f, .int .u16 g])), .string (be2 (cv .u64 f) ++ be2 (cv .u64 g)), .string (be4 (cv .u64 0)), .string ((be2 (cv .u64 f) ++ be2 (cv .u64 g)) ++ (be4 (cv .u64 0))), .string (be4 (cv .u64 0)), .string (((be2 (cv .u64 f) ++ be2 (cv .u64 g)) ++ (be4 (cv .u64 0))) ++ (be4 (cv .u64 0))), .int .u8 q, x_22, .string (bs [80, q, 255, 255]), .string ((((be2 (cv .u64 f) ++ be2 (cv .u64 g)) ++ (be4 (cv .u64 0))) ++ (be4 (cv .u64 0))) ++ (bs [80, q, 255, 255])), undef, undef, undef, undef, undef, undef, undef], []⟩ → l = #[true, true, true, true, true, true, true, true, true, true, false] → Mem ⟨w, []⟩ [⟨g1, .cells (av 4 (ls [.bool (v0), .int .u64 h0, .int .u64 l0, .int .u16 f])) 40⟩, ⟨g2, .cells (av 4 (ls [.bool (v1), .int .u64 h1, .int .u64 l1, .int .u16 g])) 40⟩, ⟨g3, .cells (av 9 (ls [.bool false, .int .u64 0, .int .u64 0, .bool false, .int .u64 0, .int .u64 0, .int .u8 0, .int .u8 0, .string ⟨#[]⟩])) 26⟩, ⟨g4, .cells (av 9 (ls [.int .u8 6, .bool (v0), .int .u64 h0, .int .u64 l0, .bool (v1), .int .u64 h1, .int .u64 l1, .int .u16 f, .int .u16 g])) 29⟩] w0 → H 1 l a w0 := by
    intro a l  x_22 u0 ha hl M
    subst ha hl
    refine hB _ _ _ _ ?_
    refine hl_end (by kernel_rfl) (by kernel_rfl) rfl ?_
    refine pl_val (want_no rfl) (some 11) rfl (.string ((((be2 (cv .u64 f) ++ be2 (cv .u64 g)) ++ (be4 (cv .u64 0))) ++ (be4 (cv .u64 0))) ++ (bs [80, q, 255, 255]))) (fun _ => by kernel_rfl) ?_
    refine pl_nil ?_
    refine au_then ?_
    refine au_then ?_
    refine wp_seq ?_
    refine rg_tail M 7 (by kernel_rfl) (by kernel_rfl) ?_
    simp only [List.take_succ_cons, List.take_zero]
    refine k_load M (want_no rfl) (some 25) rfl 29 _ rfl 3 g4 0 (by kernel_rfl) 9 29 (ls [.int .u8 6, .bool (v0), .int .u64 h0, .int .u64 l0, .bool (v1), .int .u64 h1, .int .u64 l1, .int .u16 f, .int .u16 g]) rfl 9 (ls [.int .u8 6, .bool (v0), .int .u64 h0, .int .u64 l0, .bool (v1), .int .u64 h1, .int .u64 l1, .int .u16 f, .int .u16 g]) (fun j _ => by rw [Nat.zero_add]) (by decide) _ Try.underlying29 rfl inz29 ?_
    refine k_val (want_no rfl) (some 26) rfl (.string ((((be2 (cv .u64 f) ++ be2 (cv .u64 g)) ++ (be4 (cv .u64 0))) ++ (be4 (cv .u64 0))) ++ (bs [80, q, 255, 255]))) (fun _ => by kernel_rfl) ?_
    refine k_call M (want_no rfl) (some 27) rfl 31 #[.int .u16 0] (.string (be2 (cv .u64 0))) (fun _ => by kernel_rfl) (fun w M => c_U16 0 w M.laid) ?_
    refine k_val (want_no rfl) (some 28) rfl (.string d) (fun _ => by kernel_rfl) ?_
    refine k_call M (want_no rfl) (some 29) rfl 29 #[.agg (av 9 (ls [.int .u8 6, .bool (v0), .int .u64 h0, .int .u64 l0, .bool (v1), .int .u64 h1, .int .u64 l1, .int .u16 f, .int .u16 g])), .string ((((be2 (cv .u64 f) ++ be2 (cv .u64 g)) ++ (be4 (cv .u64 0))) ++ (be4 (cv .u64 0))) ++ (bs [80, q, 255, 255])), .string (be2 (cv .u64 0)), .string d] (.tuple #[.agg (av 9 (ls [.bool (zB (pkE v0 h0 l0 v1 h1 l1 (tcA f g q) (tcB d)) v0), .int .u64 (zI (pkE v0 h0 l0 v1 h1 l1 (tcA f g q) (tcB d)) h0), .int .u64 (zI (pkE v0 h0 l0 v1 h1 l1 (tcA f g q) (tcB d)) l0), .bool (zB (pkE v0 h0 l0 v1 h1 l1 (tcA f g q) (tcB d)) v1), .int .u64 (zI (pkE v0 h0 l0 v1 h1 l1 (tcA f g q) (tcB d)) h1), .int .u64 (zI (pkE v0 h0 l0 v1 h1 l1 (tcA f g q) (tcB d)) l1), .int .u8 (zI (pkE v0 h0 l0 v1 h1 l1 (tcA f g q) (tcB d)) 6), .int .u8 (zI (pkE v0 h0 l0 v1 h1 l1 (tcA f g q) (tcB d)) 64), .string (zS (pkE v0 h0 l0 v1 h1 l1 (tcA f g q) (tcB d)) (pkO v0 h0 l0 v1 h1 l1 6 (tcA f g q) (tcB d)))])), .int .i64 (pkE v0 h0 l0 v1 h1 l1 (tcA f g q) (tcB d))]) (fun _ => by kernel_rfl) (fun w M => call_val (c_packetOf v0 h0 l0 v1 h1 l1 6 f g ((((be2 (cv .u64 f) ++ be2 (cv .u64 g)) ++ (be4 (cv .u64 0))) ++ (be4 (cv .u64 0))) ++ (bs [80, q, 255, 255])) (be2 (cv .u64 0)) d (by (try simp only [ByteArray.size_append, ByteArray.size_extract, be2_size, be4_size, be8_size, bs_size, sz_mk, List.size_toArray, List.length_cons, List.length_nil]); omega) (by (try simp only [ByteArray.size_append, ByteArray.size_extract, be2_size, be4_size, be8_size, bs_size, sz_mk, List.size_toArray, List.length_cons, List.length_nil]); omega) (by omega) (by omega) w M.laid) (by rfl)) ?_
    refine k_val (want_no rfl) (some 30) rfl (.agg (av 9 (ls [.bool (zB (pkE v0 h0 l0 v1 h1 l1 (tcA f g q) (tcB d)) v0), .int .u64 (zI (pkE v0 h0 l0 v1 h1 l1 (tcA f g q) (tcB d)) h0), .int .u64 (zI (pkE v0 h0 l0 v1 h1 l1 (tcA f g q) (tcB d)) l0), .bool (zB (pkE v0 h0 l0 v1 h1 l1 (tcA f g q) (tcB d)) v1), .int .u64 (zI (pkE v0 h0 l0 v1 h1 l1 (tcA f g q) (tcB d)) h1), .int .u64 (zI (pkE v0 h0 l0 v1 h1 l1 (tcA f g q) (tcB d)) l1), .int .u8 (zI (pkE v0 h0 l0 v1 h1 l1 (tcA f g q) (tcB d)) 6), .int .u8 (zI (pkE v0 h0 l0 v1 h1 l1 (tcA f g q) (tcB d)) 64), .string (zS (pkE v0 h0 l0 v1 h1 l1 (tcA f g q) (tcB d)) (pkO v0 h0 l0 v1 h1 l1 6 (tcA f g q) (tcB d)))]))) (fun _ => by kernel_rfl) ?_
    refine k_val (want_no rfl) (some 31) rfl (.int .i64 (pkE v0 h0 l0 v1 h1 l1 (tcA f g q) (tcB d))) (fun _ => by kernel_rfl) ?_
    refine kl_nil ?_
    intro u12 M
    replace M : Mem ⟨w, []⟩ [⟨g1, .cells (av 4 (ls [.bool (v0), .int .u64 h0, .int .u64 l0, .int .u16 f])) 40⟩, ⟨g2, .cells (av 4 (ls [.bool (v1), .int .u64 h1, .int .u64 l1, .int .u16 g])) 40⟩, ⟨g3, .cells (av 9 (ls [.bool false, .int .u64 0, .int .u64 0, .bool false, .int .u64 0, .int .u64 0, .int .u8 0, .int .u8 0, .string ⟨#[]⟩])) 26⟩, ⟨g4, .cells (av 9 (ls [.int .u8 6, .bool (v0), .int .u64 h0, .int .u64 l0, .bool (v1), .int .u64 h1, .int .u64 l1, .int .u16 f, .int .u16 g])) 29⟩] u12 := M
    refine pl_put M (want_no rfl) rfl 26 _ _ rfl 2 g3 0 (by kernel_rfl) 9 26 (ls [.bool false, .int .u64 0, .int .u64 0, .bool false, .int .u64 0, .int .u64 0, .int .u8 0, .int .u8 0, .string ⟨#[]⟩]) rfl 9 (ls [.bool (zB (pkE v0 h0 l0 v1 h1 l1 (tcA f g q) (tcB d)) v0), .int .u64 (zI (pkE v0 h0 l0 v1 h1 l1 (tcA f g q) (tcB d)) h0), .int .u64 (zI (pkE v0 h0 l0 v1 h1 l1 (tcA f g q) (tcB d)) l0), .bool (zB (pkE v0 h0 l0 v1 h1 l1 (tcA f g q) (tcB d)) v1), .int .u64 (zI (pkE v0 h0 l0 v1 h1 l1 (tcA f g q) (tcB d)) h1), .int .u64 (zI (pkE v0 h0 l0 v1 h1 l1 (tcA f g q) (tcB d)) l1), .int .u8 (zI (pkE v0 h0 l0 v1 h1 l1 (tcA f g q) (tcB d)) 6), .int .u8 (zI (pkE v0 h0 l0 v1 h1 l1 (tcA f g q) (tcB d)) 64), .string (zS (pkE v0 h0 l0 v1 h1 l1 (tcA f g q) (tcB d)) (pkO v0 h0 l0 v1 h1 l1 6 (tcA f g q) (tcB d)))]) (ls [.bool (zB (pkE v0 h0 l0 v1 h1 l1 (tcA f g q) (tcB d)) v0), .int .u64 (zI (pkE v0 h0 l0 v1 h1 l1 (tcA f g q) (tcB d)) h0), .int .u64 (zI (pkE v0 h0 l0 v1 h1 l1 (tcA f g q) (tcB d)) l0), .bool (zB (pkE v0 h0 l0 v1 h1 l1 (tcA f g q) (tcB d)) v1), .int .u64 (zI (pkE v0 h0 l0 v1 h1 l1 (tcA f g q) (tcB d)) h1), .int .u64 (zI (pkE v0 h0 l0 v1 h1 l1 (tcA f g q) (tcB d)) l1), .int .u8 (zI (pkE v0 h0 l0 v1 h1 l1 (tcA f g q) (tcB d)) 6), .int .u8 (zI (pkE v0 h0 l0 v1 h1 l1 (tcA f g q) (tcB d)) 64), .string (zS (pkE v0 h0 l0 v1 h1 l1 (tcA f g q) (tcB d)) (pkO v0 h0 l0 v1 h1 l1 6 (tcA f g q) (tcB d)))]) (by kernel_rfl) inz26 (by decide) (one_ls _ rfl) (fun j hj => by rw [if_pos (by omega), Nat.sub_zero]) ?_
    intro u13 M
    replace M : Mem ⟨w, []⟩ [⟨g1, .cells (av 4 (ls [.bool (v0), .int .u64 h0, .int .u64 l0, .int .u16 f])) 40⟩, ⟨g2, .cells (av 4 (ls [.bool (v1), .int .u64 h1, .int .u64 l1, .int .u16 g])) 40⟩, ⟨g3, .cells (av 9 (ls [.bool (zB (pkE v0 h0 l0 v1 h1 l1 (tcA f g q) (tcB d)) v0), .int .u64 (zI (pkE v0 h0 l0 v1 h1 l1 (tcA f g q) (tcB d)) h0), .int .u64 (zI (pkE v0 h0 l0 v1 h1 l1 (tcA f g q) (tcB d)) l0), .bool (zB (pkE v0 h0 l0 v1 h1 l1 (tcA f g q) (tcB d)) v1), .int .u64 (zI (pkE v0 h0 l0 v1 h1 l1 (tcA f g q) (tcB d)) h1), .int .u64 (zI (pkE v0 h0 l0 v1 h1 l1 (tcA f g q) (tcB d)) l1), .int .u8 (zI (pkE v0 h0 l0 v1 h1 l1 (tcA f g q) (tcB d)) 6), .int .u8 (zI (pkE v0 h0 l0 v1 h1 l1 (tcA f g q) (tcB d)) 64), .string (zS (pkE v0 h0 l0 v1 h1 l1 (tcA f g q) (tcB d)) (pkO v0 h0 l0 v1 h1 l1 6 (tcA f g q) (tcB d)))])) 26⟩, ⟨g4, .cells (av 9 (ls [.int .u8 6, .bool (v0), .int .u64 h0, .int .u64 l0, .bool (v1), .int .u64 h1, .int .u64 l1, .int .u16 f, .int .u16 g])) 29⟩] u13 := M
    refine pl_val (want_no rfl) (some 9) rfl (.int .i64 (pkE v0 h0 l0 v1 h1 l1 (tcA f g q) (tcB d))) (fun _ => by kernel_rfl) ?_
    refine pl_nil ?_
    refine au_then ?_
    refine wp_ret ?_
    exact bodyPost_ret (v := .tuple #[.agg (av 9 (ls [.bool (zB (pkE v0 h0 l0 v1 h1 l1 (tcA f g q) (tcB d)) v0), .int .u64 (zI (pkE v0 h0 l0 v1 h1 l1 (tcA f g q) (tcB d)) h0), .int .u64 (zI (pkE v0 h0 l0 v1 h1 l1 (tcA f g q) (tcB d)) l0), .bool (zB (pkE v0 h0 l0 v1 h1 l1 (tcA f g q) (tcB d)) v1), .int .u64 (zI (pkE v0 h0 l0 v1 h1 l1 (tcA f g q) (tcB d)) h1), .int .u64 (zI (pkE v0 h0 l0 v1 h1 l1 (tcA f g q) (tcB d)) l1), .int .u8 (zI (pkE v0 h0 l0 v1 h1 l1 (tcA f g q) (tcB d)) 6), .int .u8 (zI (pkE v0 h0 l0 v1 h1 l1 (tcA f g q) (tcB d)) 64), .string (zS (pkE v0 h0 l0 v1 h1 l1 (tcA f g q) (tcB d)) (pkO v0 h0 l0 v1 h1 l1 6 (tcA f g q) (tcB d)))])), .int .i64 (pkE v0 h0 l0 v1 h1 l1 (tcA f g q) (tcB d))]) (results_cell_tmp Try.results16 _ _ g3 26 (av 9 (ls [.bool (zB (pkE v0 h0 l0 v1 h1 l1 (tcA f g q) (tcB d)) v0), .int .u64 (zI (pkE v0 h0 l0 v1 h1 l1 (tcA f g q) (tcB d)) h0), .int .u64 (zI (pkE v0 h0 l0 v1 h1 l1 (tcA f g q) (tcB d)) l0), .bool (zB (pkE v0 h0 l0 v1 h1 l1 (tcA f g q) (tcB d)) v1), .int .u64 (zI (pkE v0 h0 l0 v1 h1 l1 (tcA f g q) (tcB d)) h1), .int .u64 (zI (pkE v0 h0 l0 v1 h1 l1 (tcA f g q) (tcB d)) l1), .int .u8 (zI (pkE v0 h0 l0 v1 h1 l1 (tcA f g q) (tcB d)) 6), .int .u8 (zI (pkE v0 h0 l0 v1 h1 l1 (tcA f g q) (tcB d)) 64), .string (zS (pkE v0 h0 l0 v1 h1 l1 (tcA f g q) (tcB d)) (pkO v0 h0 l0 v1 h1 l1 6 (tcA f g q) (tcB d)))])) (0, 0) _ _ (by kernel_rfl) (by kernel_rfl) (M.get 2 rfl) Try.underlying26 rfl (by rw [av_size]; exact inz26)) (by kernel_rfl) ⟨rfl, below_grown M.old⟩
  have s9 : ∀ (a : Act) (l : Array Bool) (g5 : Nat) (w0 : World), a = ⟨#[.agg (av 4 (ls [.bool (v0), .int .u64 h0, .int .u64 l0, .int .u16 f])), .agg (av 4 (ls [.bool (v1), .int .u64 h1, .int .u64 l1, .int .u16 g])), .int .u8 q, .string d, .pointer (some ⟨g1, 0, none⟩), .pointer (some ⟨g2, 0, none⟩), undef, undef, .pointer (some ⟨g3, 0, none⟩), .int .i64 0, .pointer (some ⟨g4, 0, none⟩), undef, .agg (av 4 (ls [.bool (v0), .int .u64 h0, .int .u64 l0, .int .u16 f])), .agg (av 4 (ls [.bool (v1), .int .u64 h1, .int .u64 l1, .int .u16 g])), .agg (av 9 (ls [.int .u8 6, .bool (v0), .int .u64 h0, .int .u64 l0, .bool (v1), .int .u64 h1, .int .u64 l1, .int .u16 f, .int .u16 g])), .agg (av 9 (ls [.int .u8 6, .bool (v0), .int .u64 h0, .int .u64 l0, .bool (v1), .int .u64 h1, .int .u64 l1, .int .u16 f, .int .u16 g])), .string (be2 (cv .u64 f) ++ be2 (cv .u64 g)), .string (be4 (cv .u64 0)), .string ((be2 (cv .u64 f) ++ be2 (cv .u64 g)) ++ (be4 (cv .u64 0))), .string (be4 (cv .u64 0)), .string (((be2 (cv .u64 f) ++ be2 (cv .u64 g)) ++ (be4 (cv .u64 0))) ++ (be4 (cv .u64 0))), .int .u8 q, .slice (some ⟨g5, 0, none⟩) 4 4, undef, undef, undef, undef, undef, undef, undef, undef, undef], []⟩ → l = #[true, true, true, true, true, true, true, true, false, false, false] → Mem ⟨w, []⟩ [⟨g1, .cells (av 4 (ls [.bool (v0), .int .u64 h0, .int .u64 l0, .int .u16 f])) 40⟩, ⟨g2, .cells (av 4 (ls [.bool (v1), .int .u64 h1, .int .u64 l1, .int .u16 g])) 40⟩, ⟨g3, .cells (av 9 (ls [.bool false, .int .u64 0, .int .u64 0, .bool false, .int .u64 0, .int .u64 0, .int .u8 0, .int .u8 0, .string ⟨#[]⟩])) 26⟩, ⟨g4, .cells (av 9 (ls [.int .u8 6, .bool (v0), .int .u64 h0, .int .u64 l0, .bool (v1), .int .u64 h1, .int .u64 l1, .int .u16 f, .int .u16 g])) 29⟩, ⟨g5, .cells (av 4 (ls [.int .u8 80, .int .u8 q, .int .u8 255, .int .u8 255])) 5⟩] w0 → H 3 l a w0 := by
    intro a l g5  u0 ha hl M
    subst ha hl
    refine hB _ _ _ _ ?_
    refine hl_one 8 (by decide) (by kernel_rfl) rfl ?_
    refine pl_back M (want_no rfl) (some 23) rfl _ rfl 4 g5 4 4 (by kernel_rfl) _ rfl [80, q, 255, 255] 4 (sb_ls [80, q, 255, 255] _) rfl (by intro x hx; simp only [List.mem_cons, List.mem_nil_iff, or_false] at hx; rcases hx with rfl | rfl | rfl | rfl <;> omega) ?_
    refine pl_nil ?_
    refine au_then ?_
    refine ⟨(M.drop (.cons_cons _ (.cons_cons _ (.cons_cons _ (.cons_cons _ (.cons _ (.slnil))))))), ?_⟩
    refine hl_val (M.drop (.cons_cons _ (.cons_cons _ (.cons_cons _ (.cons_cons _ (.cons _ (.slnil))))))) 9 rfl (by decide) (by kernel_rfl) (by kernel_rfl) (want_no rfl) (some 24) rfl (.string ((((be2 (cv .u64 f) ++ be2 (cv .u64 g)) ++ (be4 (cv .u64 0))) ++ (be4 (cv .u64 0))) ++ (bs [80, q, 255, 255]))) (fun w _ => (run_cat 9 9 _ _ rfl (((be2 (cv .u64 f) ++ be2 (cv .u64 g)) ++ (be4 (cv .u64 0))) ++ (be4 (cv .u64 0))) (bs [80, q, 255, 255]) (by kernel_rfl) (by kernel_rfl) (by (try simp only [ByteArray.size_append, ByteArray.size_extract, be2_size, be4_size, be8_size, bs_size, sz_mk, List.size_toArray, List.length_cons, List.length_nil]); omega)) w) ?_
    exact hA _ _ _ _ (s11 _ _ (.slice (some ⟨g5, 0, none⟩) 4 4) _ (by kernel_rfl) (by kernel_rfl) (M.drop (.cons_cons _ (.cons_cons _ (.cons_cons _ (.cons_cons _ (.cons _ (.slnil))))))))
  have s6 : ∀ (a : Act) (l : Array Bool) (w0 : World), a = ⟨#[.agg (av 4 (ls [.bool (v0), .int .u64 h0, .int .u64 l0, .int .u16 f])), .agg (av 4 (ls [.bool (v1), .int .u64 h1, .int .u64 l1, .int .u16 g])), .int .u8 q, .string d, .pointer (some ⟨g1, 0, none⟩), .pointer (some ⟨g2, 0, none⟩), undef, undef, .pointer (some ⟨g3, 0, none⟩), .int .i64 0, .pointer (some ⟨g4, 0, none⟩), undef, .agg (av 4 (ls [.bool (v0), .int .u64 h0, .int .u64 l0, .int .u16 f])), .agg (av 4 (ls [.bool (v1), .int .u64 h1, .int .u64 l1, .int .u16 g])), .agg (av 9 (ls [.int .u8 6, .bool (v0), .int .u64 h0, .int .u64 l0, .bool (v1), .int .u64 h1, .int .u64 l1, .int .u16 f, .int .u16 g])), .agg (av 9 (ls [.int .u8 6, .bool (v0), .int .u64 h0, .int .u64 l0, .bool (v1), .int .u64 h1, .int .u64 l1, .int .u16 f, .int .u16 g])), .string (be2 (cv .u64 f) ++ be2 (cv .u64 g)), .string (be4 (cv .u64 0)), .string ((be2 (cv .u64 f) ++ be2 (cv .u64 g)) ++ (be4 (cv .u64 0))), .string (be4 (cv .u64 0)), .string (((be2 (cv .u64 f) ++ be2 (cv .u64 g)) ++ (be4 (cv .u64 0))) ++ (be4 (cv .u64 0))), .int .u8 q, undef, undef, undef, undef, undef, undef, undef, undef, undef, undef], []⟩ → l = #[true, true, true, true, true, true, true, false, false, false, false] → Mem ⟨w, []⟩ [⟨g1, .cells (av 4 (ls [.bool (v0), .int .u64 h0, .int .u64 l0, .int .u16 f])) 40⟩, ⟨g2, .cells (av 4 (ls [.bool (v1), .int .u64 h1, .int .u64 l1, .int .u16 g])) 40⟩, ⟨g3, .cells (av 9 (ls [.bool false, .int .u64 0, .int .u64 0, .bool false, .int .u64 0, .int .u64 0, .int .u8 0, .int .u8 0, .string ⟨#[]⟩])) 26⟩, ⟨g4, .cells (av 9 (ls [.int .u8 6, .bool (v0), .int .u64 h0, .int .u64 l0, .bool (v1), .int .u64 h1, .int .u64 l1, .int .u16 f, .int .u16 g])) 29⟩] w0 → H 4 l a w0 := by
    intro a l   u0 ha hl M
    subst ha hl
    refine hB _ _ _ _ ?_
    refine hl_one 7 (by decide) (by kernel_rfl) rfl ?_
    refine pl_mk M (want_no rfl) (some 22) rfl (fun g5 => .slice (some ⟨g5, 0, none⟩) 4 4) (.cells (av 4 (ls [.int .u8 80, .int .u8 q, .int .u8 255, .int .u8 255])) 5) (fun _ => by kernel_rfl) ?_
    intro g5 u11 M
    replace M : Mem ⟨w, []⟩ [⟨g1, .cells (av 4 (ls [.bool (v0), .int .u64 h0, .int .u64 l0, .int .u16 f])) 40⟩, ⟨g2, .cells (av 4 (ls [.bool (v1), .int .u64 h1, .int .u64 l1, .int .u16 g])) 40⟩, ⟨g3, .cells (av 9 (ls [.bool false, .int .u64 0, .int .u64 0, .bool false, .int .u64 0, .int .u64 0, .int .u8 0, .int .u8 0, .string ⟨#[]⟩])) 26⟩, ⟨g4, .cells (av 9 (ls [.int .u8 6, .bool (v0), .int .u64 h0, .int .u64 l0, .bool (v1), .int .u64 h1, .int .u64 l1, .int .u16 f, .int .u16 g])) 29⟩, ⟨g5, .cells (av 4 (ls [.int .u8 80, .int .u8 q, .int .u8 255, .int .u8 255])) 5⟩] u11 := M
    refine pl_nil ?_
    refine au_then ?_
    refine ⟨(M.drop (.cons_cons _ (.cons_cons _ (.cons_cons _ (.cons_cons _ (.cons _ (.slnil))))))), ?_⟩
    exact hA _ _ _ _ (s9 _ _ g5 _ (by kernel_rfl) (by kernel_rfl) M)
  have s10 : ∀ (a : Act) (l : Array Bool) (x_22 : Value) (w0 : World), a = ⟨#[.agg (av 4 (ls [.bool (v0), .int .u64 h0, .int .u64 l0, .int .u16 f])), .agg (av 4 (ls [.bool (v1), .int .u64 h1, .int .u64 l1, .int .u16 g])), .int .u8 q, .string d, .pointer (some ⟨g1, 0, none⟩), .pointer (some ⟨g2, 0, none⟩), undef, undef, .pointer (some ⟨g3, 0, none⟩), .int .i64 0, .pointer (some ⟨g4, 0, none⟩), undef, .agg (av 4 (ls [.bool (v0), .int .u64 h0, .int .u64 l0, .int .u16 f])), .agg (av 4 (ls [.bool (v1), .int .u64 h1, .int .u64 l1, .int .u16 g])), .agg (av 9 (ls [.int .u8 6, .bool (v0), .int .u64 h0, .int .u64 l0, .bool (v1), .int .u64 h1, .int .u64 l1, .int .u16 f, .int .u16 g])), .agg (av 9 (ls [.int .u8 6, .bool (v0), .int .u64 h0, .int .u64 l0, .bool (v1), .int .u64 h1, .int .u64 l1, .int .u16 f, .int .u16 g])), .string (be2 (cv .u64 f) ++ be2 (cv .u64 g)), .string (be4 (cv .u64 0)), .string ((be2 (cv .u64 f) ++ be2 (cv .u64 g)) ++ (be4 (cv .u64 0))), undef, undef, .int .u8 q, x_22, .string (bs [80, q, 255, 255]), undef, undef, undef, undef, undef, undef, undef, undef], []⟩ → l = #[true, true, true, true, false, false, true, true, true, false, false] → Mem ⟨w, []⟩ [⟨g1, .cells (av 4 (ls [.bool (v0), .int .u64 h0, .int .u64 l0, .int .u16 f])) 40⟩, ⟨g2, .cells (av 4 (ls [.bool (v1), .int .u64 h1, .int .u64 l1, .int .u16 g])) 40⟩, ⟨g3, .cells (av 9 (ls [.bool false, .int .u64 0, .int .u64 0, .bool false, .int .u64 0, .int .u64 0, .int .u8 0, .int .u8 0, .string ⟨#[]⟩])) 26⟩, ⟨g4, .cells (av 9 (ls [.int .u8 6, .bool (v0), .int .u64 h0, .int .u64 l0, .bool (v1), .int .u64 h1, .int .u64 l1, .int .u16 f, .int .u16 g])) 29⟩] w0 → H 4 l a w0 := by
    intro a l  x_22 u0 ha hl M
    subst ha hl
    refine hB _ _ _ _ ?_
    refine hl_one 4 (by decide) (by kernel_rfl) rfl ?_
    refine pl_call M (want_no rfl) (some 19) rfl 34 #[.int .u32 0] (.string (be4 (cv .u64 0))) (fun _ => by kernel_rfl) (fun w M => c_U32 0 w M.laid) ?_
    intro u11 M
    refine pl_nil ?_
    refine au_then ?_
    refine ⟨M, ?_⟩
    refine hl_val M 5 rfl (by decide) (by kernel_rfl) (by kernel_rfl) (want_no rfl) (some 20) rfl (.string (((be2 (cv .u64 f) ++ be2 (cv .u64 g)) ++ (be4 (cv .u64 0))) ++ (be4 (cv .u64 0)))) (fun w _ => (run_cat 9 9 _ _ rfl ((be2 (cv .u64 f) ++ be2 (cv .u64 g)) ++ (be4 (cv .u64 0))) (be4 (cv .u64 0)) (by kernel_rfl) (by kernel_rfl) (by (try simp only [ByteArray.size_append, ByteArray.size_extract, be2_size, be4_size, be8_size, bs_size, sz_mk, List.size_toArray, List.length_cons, List.length_nil]); omega)) w) ?_
    refine hl_val M 9 rfl (by decide) (by kernel_rfl) (by kernel_rfl) (want_no rfl) (some 24) rfl (.string ((((be2 (cv .u64 f) ++ be2 (cv .u64 g)) ++ (be4 (cv .u64 0))) ++ (be4 (cv .u64 0))) ++ (bs [80, q, 255, 255]))) (fun w _ => (run_cat 9 9 _ _ rfl (((be2 (cv .u64 f) ++ be2 (cv .u64 g)) ++ (be4 (cv .u64 0))) ++ (be4 (cv .u64 0))) (bs [80, q, 255, 255]) (by kernel_rfl) (by kernel_rfl) (by (try simp only [ByteArray.size_append, ByteArray.size_extract, be2_size, be4_size, be8_size, bs_size, sz_mk, List.size_toArray, List.length_cons, List.length_nil]); omega)) w) ?_
    exact hA _ _ _ _ (s11 _ _ (x_22) _ (by kernel_rfl) (by kernel_rfl) M)
  have s7 : ∀ (a : Act) (l : Array Bool) (g5 : Nat) (w0 : World), a = ⟨#[.agg (av 4 (ls [.bool (v0), .int .u64 h0, .int .u64 l0, .int .u16 f])), .agg (av 4 (ls [.bool (v1), .int .u64 h1, .int .u64 l1, .int .u16 g])), .int .u8 q, .string d, .pointer (some ⟨g1, 0, none⟩), .pointer (some ⟨g2, 0, none⟩), undef, undef, .pointer (some ⟨g3, 0, none⟩), .int .i64 0, .pointer (some ⟨g4, 0, none⟩), undef, .agg (av 4 (ls [.bool (v0), .int .u64 h0, .int .u64 l0, .int .u16 f])), .agg (av 4 (ls [.bool (v1), .int .u64 h1, .int .u64 l1, .int .u16 g])), .agg (av 9 (ls [.int .u8 6, .bool (v0), .int .u64 h0, .int .u64 l0, .bool (v1), .int .u64 h1, .int .u64 l1, .int .u16 f, .int .u16 g])), .agg (av 9 (ls [.int .u8 6, .bool (v0), .int .u64 h0, .int .u64 l0, .bool (v1), .int .u64 h1, .int .u64 l1, .int .u16 f, .int .u16 g])), .string (be2 (cv .u64 f) ++ be2 (cv .u64 g)), .string (be4 (cv .u64 0)), .string ((be2 (cv .u64 f) ++ be2 (cv .u64 g)) ++ (be4 (cv .u64 0))), undef, undef, .int .u8 q, .slice (some ⟨g5, 0, none⟩) 4 4, undef, undef, undef, undef, undef, undef, undef, undef, undef], []⟩ → l = #[true, true, true, true, false, false, true, true, false, false, false] → Mem ⟨w, []⟩ [⟨g1, .cells (av 4 (ls [.bool (v0), .int .u64 h0, .int .u64 l0, .int .u16 f])) 40⟩, ⟨g2, .cells (av 4 (ls [.bool (v1), .int .u64 h1, .int .u64 l1, .int .u16 g])) 40⟩, ⟨g3, .cells (av 9 (ls [.bool false, .int .u64 0, .int .u64 0, .bool false, .int .u64 0, .int .u64 0, .int .u8 0, .int .u8 0, .string ⟨#[]⟩])) 26⟩, ⟨g4, .cells (av 9 (ls [.int .u8 6, .bool (v0), .int .u64 h0, .int .u64 l0, .bool (v1), .int .u64 h1, .int .u64 l1, .int .u16 f, .int .u16 g])) 29⟩, ⟨g5, .cells (av 4 (ls [.int .u8 80, .int .u8 q, .int .u8 255, .int .u8 255])) 5⟩] w0 → H 5 l a w0 := by
    intro a l g5  u0 ha hl M
    subst ha hl
    refine hB _ _ _ _ ?_
    refine hl_two 4 8 (by decide) (by decide) (by kernel_rfl) rfl rfl ?_ ?_
    · skip
      refine pl_call M (want_no rfl) (some 19) rfl 34 #[.int .u32 0] (.string (be4 (cv .u64 0))) (fun _ => by kernel_rfl) (fun w M => c_U32 0 w M.laid) ?_
      intro u11 M
      refine pl_nil ?_
      refine au_then ?_
      refine ⟨(M.drop (.cons_cons _ (.cons_cons _ (.cons_cons _ (.cons_cons _ (.cons _ (.slnil))))))), ?_⟩
      refine hl_val (M.drop (.cons_cons _ (.cons_cons _ (.cons_cons _ (.cons_cons _ (.cons _ (.slnil))))))) 5 rfl (by decide) (by kernel_rfl) (by kernel_rfl) (want_no rfl) (some 20) rfl (.string (((be2 (cv .u64 f) ++ be2 (cv .u64 g)) ++ (be4 (cv .u64 0))) ++ (be4 (cv .u64 0)))) (fun w _ => (run_cat 9 9 _ _ rfl ((be2 (cv .u64 f) ++ be2 (cv .u64 g)) ++ (be4 (cv .u64 0))) (be4 (cv .u64 0)) (by kernel_rfl) (by kernel_rfl) (by (try simp only [ByteArray.size_append, ByteArray.size_extract, be2_size, be4_size, be8_size, bs_size, sz_mk, List.size_toArray, List.length_cons, List.length_nil]); omega)) w) ?_
      exact hA _ _ _ _ (s9 _ _ g5 _ (by kernel_rfl) (by kernel_rfl) M)
    · skip
      refine pl_back M (want_no rfl) (some 23) rfl _ rfl 4 g5 4 4 (by kernel_rfl) _ rfl [80, q, 255, 255] 4 (sb_ls [80, q, 255, 255] _) rfl (by intro x hx; simp only [List.mem_cons, List.mem_nil_iff, or_false] at hx; rcases hx with rfl | rfl | rfl | rfl <;> omega) ?_
      refine pl_nil ?_
      refine au_then ?_
      refine ⟨(M.drop (.cons_cons _ (.cons_cons _ (.cons_cons _ (.cons_cons _ (.cons _ (.slnil))))))), ?_⟩
      exact hA _ _ _ _ (s10 _ _ (.slice (some ⟨g5, 0, none⟩) 4 4) _ (by kernel_rfl) (by kernel_rfl) (M.drop (.cons_cons _ (.cons_cons _ (.cons_cons _ (.cons_cons _ (.cons _ (.slnil))))))))
  have s3 : ∀ (a : Act) (l : Array Bool) (w0 : World), a = ⟨#[.agg (av 4 (ls [.bool (v0), .int .u64 h0, .int .u64 l0, .int .u16 f])), .agg (av 4 (ls [.bool (v1), .int .u64 h1, .int .u64 l1, .int .u16 g])), .int .u8 q, .string d, .pointer (some ⟨g1, 0, none⟩), .pointer (some ⟨g2, 0, none⟩), undef, undef, .pointer (some ⟨g3, 0, none⟩), .int .i64 0, .pointer (some ⟨g4, 0, none⟩), undef, .agg (av 4 (ls [.bool (v0), .int .u64 h0, .int .u64 l0, .int .u16 f])), .agg (av 4 (ls [.bool (v1), .int .u64 h1, .int .u64 l1, .int .u16 g])), .agg (av 9 (ls [.int .u8 6, .bool (v0), .int .u64 h0, .int .u64 l0, .bool (v1), .int .u64 h1, .int .u64 l1, .int .u16 f, .int .u16 g])), .agg (av 9 (ls [.int .u8 6, .bool (v0), .int .u64 h0, .int .u64 l0, .bool (v1), .int .u64 h1, .int .u64 l1, .int .u16 f, .int .u16 g])), .string (be2 (cv .u64 f) ++ be2 (cv .u64 g)), .string (be4 (cv .u64 0)), .string ((be2 (cv .u64 f) ++ be2 (cv .u64 g)) ++ (be4 (cv .u64 0))), undef, undef, .int .u8 q, undef, undef, undef, undef, undef, undef, undef, undef, undef, undef], []⟩ → l = #[true, true, true, true, false, false, true, false, false, false, false] → Mem ⟨w, []⟩ [⟨g1, .cells (av 4 (ls [.bool (v0), .int .u64 h0, .int .u64 l0, .int .u16 f])) 40⟩, ⟨g2, .cells (av 4 (ls [.bool (v1), .int .u64 h1, .int .u64 l1, .int .u16 g])) 40⟩, ⟨g3, .cells (av 9 (ls [.bool false, .int .u64 0, .int .u64 0, .bool false, .int .u64 0, .int .u64 0, .int .u8 0, .int .u8 0, .string ⟨#[]⟩])) 26⟩, ⟨g4, .cells (av 9 (ls [.int .u8 6, .bool (v0), .int .u64 h0, .int .u64 l0, .bool (v1), .int .u64 h1, .int .u64 l1, .int .u16 f, .int .u16 g])) 29⟩] w0 → H 6 l a w0 := by
    intro a l   u0 ha hl M
    subst ha hl
    refine hB _ _ _ _ ?_
    refine hl_two 4 7 (by decide) (by decide) (by kernel_rfl) rfl rfl ?_ ?_
    · skip
      refine pl_call M (want_no rfl) (some 19) rfl 34 #[.int .u32 0] (.string (be4 (cv .u64 0))) (fun _ => by kernel_rfl) (fun w M => c_U32 0 w M.laid) ?_
      intro u10 M
      refine pl_nil ?_
      refine au_then ?_
      refine ⟨M, ?_⟩
      refine hl_val M 5 rfl (by decide) (by kernel_rfl) (by kernel_rfl) (want_no rfl) (some 20) rfl (.string (((be2 (cv .u64 f) ++ be2 (cv .u64 g)) ++ (be4 (cv .u64 0))) ++ (be4 (cv .u64 0)))) (fun w _ => (run_cat 9 9 _ _ rfl ((be2 (cv .u64 f) ++ be2 (cv .u64 g)) ++ (be4 (cv .u64 0))) (be4 (cv .u64 0)) (by kernel_rfl) (by kernel_rfl) (by (try simp only [ByteArray.size_append, ByteArray.size_extract, be2_size, be4_size, be8_size, bs_size, sz_mk, List.size_toArray, List.length_cons, List.length_nil]); omega)) w) ?_
      exact hA _ _ _ _ (s6 _ _  _ (by kernel_rfl) (by kernel_rfl) M)
    · skip
      refine pl_mk M (want_no rfl) (some 22) rfl (fun g5 => .slice (some ⟨g5, 0, none⟩) 4 4) (.cells (av 4 (ls [.int .u8 80, .int .u8 q, .int .u8 255, .int .u8 255])) 5) (fun _ => by kernel_rfl) ?_
      intro g5 u10 M
      replace M : Mem ⟨w, []⟩ [⟨g1, .cells (av 4 (ls [.bool (v0), .int .u64 h0, .int .u64 l0, .int .u16 f])) 40⟩, ⟨g2, .cells (av 4 (ls [.bool (v1), .int .u64 h1, .int .u64 l1, .int .u16 g])) 40⟩, ⟨g3, .cells (av 9 (ls [.bool false, .int .u64 0, .int .u64 0, .bool false, .int .u64 0, .int .u64 0, .int .u8 0, .int .u8 0, .string ⟨#[]⟩])) 26⟩, ⟨g4, .cells (av 9 (ls [.int .u8 6, .bool (v0), .int .u64 h0, .int .u64 l0, .bool (v1), .int .u64 h1, .int .u64 l1, .int .u16 f, .int .u16 g])) 29⟩, ⟨g5, .cells (av 4 (ls [.int .u8 80, .int .u8 q, .int .u8 255, .int .u8 255])) 5⟩] u10 := M
      refine pl_nil ?_
      refine au_then ?_
      refine ⟨(M.drop (.cons_cons _ (.cons_cons _ (.cons_cons _ (.cons_cons _ (.cons _ (.slnil))))))), ?_⟩
      exact hA _ _ _ _ (s7 _ _ g5 _ (by kernel_rfl) (by kernel_rfl) M)
  have s8 : ∀ (a : Act) (l : Array Bool) (x_22 : Value) (w0 : World), a = ⟨#[.agg (av 4 (ls [.bool (v0), .int .u64 h0, .int .u64 l0, .int .u16 f])), .agg (av 4 (ls [.bool (v1), .int .u64 h1, .int .u64 l1, .int .u16 g])), .int .u8 q, .string d, .pointer (some ⟨g1, 0, none⟩), .pointer (some ⟨g2, 0, none⟩), undef, undef, .pointer (some ⟨g3, 0, none⟩), .int .i64 0, .pointer (some ⟨g4, 0, none⟩), undef, .agg (av 4 (ls [.bool (v0), .int .u64 h0, .int .u64 l0, .int .u16 f])), .agg (av 4 (ls [.bool (v1), .int .u64 h1, .int .u64 l1, .int .u16 g])), .agg (av 9 (ls [.int .u8 6, .bool (v0), .int .u64 h0, .int .u64 l0, .bool (v1), .int .u64 h1, .int .u64 l1, .int .u16 f, .int .u16 g])), .agg (av 9 (ls [.int .u8 6, .bool (v0), .int .u64 h0, .int .u64 l0, .bool (v1), .int .u64 h1, .int .u64 l1, .int .u16 f, .int .u16 g])), .string (be2 (cv .u64 f) ++ be2 (cv .u64 g)), undef, undef, undef, undef, .int .u8 q, x_22, .string (bs [80, q, 255, 255]), undef, undef, undef, undef, undef, undef, undef, undef], []⟩ → l = #[true, true, false, false, false, false, true, true, true, false, false] → Mem ⟨w, []⟩ [⟨g1, .cells (av 4 (ls [.bool (v0), .int .u64 h0, .int .u64 l0, .int .u16 f])) 40⟩, ⟨g2, .cells (av 4 (ls [.bool (v1), .int .u64 h1, .int .u64 l1, .int .u16 g])) 40⟩, ⟨g3, .cells (av 9 (ls [.bool false, .int .u64 0, .int .u64 0, .bool false, .int .u64 0, .int .u64 0, .int .u8 0, .int .u8 0, .string ⟨#[]⟩])) 26⟩, ⟨g4, .cells (av 9 (ls [.int .u8 6, .bool (v0), .int .u64 h0, .int .u64 l0, .bool (v1), .int .u64 h1, .int .u64 l1, .int .u16 f, .int .u16 g])) 29⟩] w0 → H 6 l a w0 := by
    intro a l  x_22 u0 ha hl M
    subst ha hl
    refine hB _ _ _ _ ?_
    refine hl_one 2 (by decide) (by kernel_rfl) rfl ?_
    refine pl_call M (want_no rfl) (some 17) rfl 34 #[.int .u32 0] (.string (be4 (cv .u64 0))) (fun _ => by kernel_rfl) (fun w M => c_U32 0 w M.laid) ?_
    intro u10 M
    refine pl_nil ?_
    refine au_then ?_
    refine ⟨M, ?_⟩
    refine hl_val M 3 rfl (by decide) (by kernel_rfl) (by kernel_rfl) (want_no rfl) (some 18) rfl (.string ((be2 (cv .u64 f) ++ be2 (cv .u64 g)) ++ (be4 (cv .u64 0)))) (fun w _ => (run_cat 9 9 _ _ rfl (be2 (cv .u64 f) ++ be2 (cv .u64 g)) (be4 (cv .u64 0)) (by kernel_rfl) (by kernel_rfl) (by (try simp only [ByteArray.size_append, ByteArray.size_extract, be2_size, be4_size, be8_size, bs_size, sz_mk, List.size_toArray, List.length_cons, List.length_nil]); omega)) w) ?_
    exact hA _ _ _ _ (s10 _ _ (x_22) _ (by kernel_rfl) (by kernel_rfl) M)
  have s4 : ∀ (a : Act) (l : Array Bool) (g5 : Nat) (w0 : World), a = ⟨#[.agg (av 4 (ls [.bool (v0), .int .u64 h0, .int .u64 l0, .int .u16 f])), .agg (av 4 (ls [.bool (v1), .int .u64 h1, .int .u64 l1, .int .u16 g])), .int .u8 q, .string d, .pointer (some ⟨g1, 0, none⟩), .pointer (some ⟨g2, 0, none⟩), undef, undef, .pointer (some ⟨g3, 0, none⟩), .int .i64 0, .pointer (some ⟨g4, 0, none⟩), undef, .agg (av 4 (ls [.bool (v0), .int .u64 h0, .int .u64 l0, .int .u16 f])), .agg (av 4 (ls [.bool (v1), .int .u64 h1, .int .u64 l1, .int .u16 g])), .agg (av 9 (ls [.int .u8 6, .bool (v0), .int .u64 h0, .int .u64 l0, .bool (v1), .int .u64 h1, .int .u64 l1, .int .u16 f, .int .u16 g])), .agg (av 9 (ls [.int .u8 6, .bool (v0), .int .u64 h0, .int .u64 l0, .bool (v1), .int .u64 h1, .int .u64 l1, .int .u16 f, .int .u16 g])), .string (be2 (cv .u64 f) ++ be2 (cv .u64 g)), undef, undef, undef, undef, .int .u8 q, .slice (some ⟨g5, 0, none⟩) 4 4, undef, undef, undef, undef, undef, undef, undef, undef, undef], []⟩ → l = #[true, true, false, false, false, false, true, true, false, false, false] → Mem ⟨w, []⟩ [⟨g1, .cells (av 4 (ls [.bool (v0), .int .u64 h0, .int .u64 l0, .int .u16 f])) 40⟩, ⟨g2, .cells (av 4 (ls [.bool (v1), .int .u64 h1, .int .u64 l1, .int .u16 g])) 40⟩, ⟨g3, .cells (av 9 (ls [.bool false, .int .u64 0, .int .u64 0, .bool false, .int .u64 0, .int .u64 0, .int .u8 0, .int .u8 0, .string ⟨#[]⟩])) 26⟩, ⟨g4, .cells (av 9 (ls [.int .u8 6, .bool (v0), .int .u64 h0, .int .u64 l0, .bool (v1), .int .u64 h1, .int .u64 l1, .int .u16 f, .int .u16 g])) 29⟩, ⟨g5, .cells (av 4 (ls [.int .u8 80, .int .u8 q, .int .u8 255, .int .u8 255])) 5⟩] w0 → H 7 l a w0 := by
    intro a l g5  u0 ha hl M
    subst ha hl
    refine hB _ _ _ _ ?_
    refine hl_two 2 8 (by decide) (by decide) (by kernel_rfl) rfl rfl ?_ ?_
    · skip
      refine pl_call M (want_no rfl) (some 17) rfl 34 #[.int .u32 0] (.string (be4 (cv .u64 0))) (fun _ => by kernel_rfl) (fun w M => c_U32 0 w M.laid) ?_
      intro u10 M
      refine pl_nil ?_
      refine au_then ?_
      refine ⟨(M.drop (.cons_cons _ (.cons_cons _ (.cons_cons _ (.cons_cons _ (.cons _ (.slnil))))))), ?_⟩
      refine hl_val (M.drop (.cons_cons _ (.cons_cons _ (.cons_cons _ (.cons_cons _ (.cons _ (.slnil))))))) 3 rfl (by decide) (by kernel_rfl) (by kernel_rfl) (want_no rfl) (some 18) rfl (.string ((be2 (cv .u64 f) ++ be2 (cv .u64 g)) ++ (be4 (cv .u64 0)))) (fun w _ => (run_cat 9 9 _ _ rfl (be2 (cv .u64 f) ++ be2 (cv .u64 g)) (be4 (cv .u64 0)) (by kernel_rfl) (by kernel_rfl) (by (try simp only [ByteArray.size_append, ByteArray.size_extract, be2_size, be4_size, be8_size, bs_size, sz_mk, List.size_toArray, List.length_cons, List.length_nil]); omega)) w) ?_
      exact hA _ _ _ _ (s7 _ _ g5 _ (by kernel_rfl) (by kernel_rfl) M)
    · skip
      refine pl_back M (want_no rfl) (some 23) rfl _ rfl 4 g5 4 4 (by kernel_rfl) _ rfl [80, q, 255, 255] 4 (sb_ls [80, q, 255, 255] _) rfl (by intro x hx; simp only [List.mem_cons, List.mem_nil_iff, or_false] at hx; rcases hx with rfl | rfl | rfl | rfl <;> omega) ?_
      refine pl_nil ?_
      refine au_then ?_
      refine ⟨(M.drop (.cons_cons _ (.cons_cons _ (.cons_cons _ (.cons_cons _ (.cons _ (.slnil))))))), ?_⟩
      exact hA _ _ _ _ (s8 _ _ (.slice (some ⟨g5, 0, none⟩) 4 4) _ (by kernel_rfl) (by kernel_rfl) (M.drop (.cons_cons _ (.cons_cons _ (.cons_cons _ (.cons_cons _ (.cons _ (.slnil))))))))
  have s5 : ∀ (a : Act) (l : Array Bool) (x_22 : Value) (w0 : World), a = ⟨#[.agg (av 4 (ls [.bool (v0), .int .u64 h0, .int .u64 l0, .int .u16 f])), .agg (av 4 (ls [.bool (v1), .int .u64 h1, .int .u64 l1, .int .u16 g])), .int .u8 q, .string d, .pointer (some ⟨g1, 0, none⟩), .pointer (some ⟨g2, 0, none⟩), undef, undef, .pointer (some ⟨g3, 0, none⟩), .int .i64 0, .pointer (some ⟨g4, 0, none⟩), undef, .agg (av 4 (ls [.bool (v0), .int .u64 h0, .int .u64 l0, .int .u16 f])), .agg (av 4 (ls [.bool (v1), .int .u64 h1, .int .u64 l1, .int .u16 g])), .agg (av 9 (ls [.int .u8 6, .bool (v0), .int .u64 h0, .int .u64 l0, .bool (v1), .int .u64 h1, .int .u64 l1, .int .u16 f, .int .u16 g])), .agg (av 9 (ls [.int .u8 6, .bool (v0), .int .u64 h0, .int .u64 l0, .bool (v1), .int .u64 h1, .int .u64 l1, .int .u16 f, .int .u16 g])), undef, undef, undef, undef, undef, .int .u8 q, x_22, .string (bs [80, q, 255, 255]), undef, undef, undef, undef, undef, undef, undef, undef], []⟩ → l = #[true, false, false, false, false, false, true, true, true, false, false] → Mem ⟨w, []⟩ [⟨g1, .cells (av 4 (ls [.bool (v0), .int .u64 h0, .int .u64 l0, .int .u16 f])) 40⟩, ⟨g2, .cells (av 4 (ls [.bool (v1), .int .u64 h1, .int .u64 l1, .int .u16 g])) 40⟩, ⟨g3, .cells (av 9 (ls [.bool false, .int .u64 0, .int .u64 0, .bool false, .int .u64 0, .int .u64 0, .int .u8 0, .int .u8 0, .string ⟨#[]⟩])) 26⟩, ⟨g4, .cells (av 9 (ls [.int .u8 6, .bool (v0), .int .u64 h0, .int .u64 l0, .bool (v1), .int .u64 h1, .int .u64 l1, .int .u16 f, .int .u16 g])) 29⟩] w0 → H 7 l a w0 := by
    intro a l  x_22 u0 ha hl M
    subst ha hl
    refine hB _ _ _ _ ?_
    refine hl_one 1 (by decide) (by kernel_rfl) rfl ?_
    refine pl_call M (want_no rfl) (some 16) rfl 30 #[.agg (av 9 (ls [.int .u8 6, .bool (v0), .int .u64 h0, .int .u64 l0, .bool (v1), .int .u64 h1, .int .u64 l1, .int .u16 f, .int .u16 g]))] (.string (be2 (cv .u64 f) ++ be2 (cv .u64 g))) (fun _ => by kernel_rfl) (fun w M => c_portBytes 6 v0 h0 l0 v1 h1 l1 f g w M.laid) ?_
    intro u9 M
    refine pl_nil ?_
    refine au_then ?_
    refine ⟨M, ?_⟩
    exact hA _ _ _ _ (s8 _ _ (x_22) _ (by kernel_rfl) (by kernel_rfl) M)
  have s1 : ∀ (a : Act) (l : Array Bool) (w0 : World), a = ⟨#[.agg (av 4 (ls [.bool (v0), .int .u64 h0, .int .u64 l0, .int .u16 f])), .agg (av 4 (ls [.bool (v1), .int .u64 h1, .int .u64 l1, .int .u16 g])), .int .u8 q, .string d, .pointer (some ⟨g1, 0, none⟩), .pointer (some ⟨g2, 0, none⟩), undef, undef, .pointer (some ⟨g3, 0, none⟩), .int .i64 0, .pointer (some ⟨g4, 0, none⟩), undef, .agg (av 4 (ls [.bool (v0), .int .u64 h0, .int .u64 l0, .int .u16 f])), .agg (av 4 (ls [.bool (v1), .int .u64 h1, .int .u64 l1, .int .u16 g])), .agg (av 9 (ls [.int .u8 6, .bool (v0), .int .u64 h0, .int .u64 l0, .bool (v1), .int .u64 h1, .int .u64 l1, .int .u16 f, .int .u16 g])), .agg (av 9 (ls [.int .u8 6, .bool (v0), .int .u64 h0, .int .u64 l0, .bool (v1), .int .u64 h1, .int .u64 l1, .int .u16 f, .int .u16 g])), .string (be2 (cv .u64 f) ++ be2 (cv .u64 g)), undef, undef, undef, undef, .int .u8 q, undef, undef, undef, undef, undef, undef, undef, undef, undef, undef], []⟩ → l = #[true, true, false, false, false, false, true, false, false, false, false] → Mem ⟨w, []⟩ [⟨g1, .cells (av 4 (ls [.bool (v0), .int .u64 h0, .int .u64 l0, .int .u16 f])) 40⟩, ⟨g2, .cells (av 4 (ls [.bool (v1), .int .u64 h1, .int .u64 l1, .int .u16 g])) 40⟩, ⟨g3, .cells (av 9 (ls [.bool false, .int .u64 0, .int .u64 0, .bool false, .int .u64 0, .int .u64 0, .int .u8 0, .int .u8 0, .string ⟨#[]⟩])) 26⟩, ⟨g4, .cells (av 9 (ls [.int .u8 6, .bool (v0), .int .u64 h0, .int .u64 l0, .bool (v1), .int .u64 h1, .int .u64 l1, .int .u16 f, .int .u16 g])) 29⟩] w0 → H 8 l a w0 := by
    intro a l   u0 ha hl M
    subst ha hl
    refine hB _ _ _ _ ?_
    refine hl_two 2 7 (by decide) (by decide) (by kernel_rfl) rfl rfl ?_ ?_
    · skip
      refine pl_call M (want_no rfl) (some 17) rfl 34 #[.int .u32 0] (.string (be4 (cv .u64 0))) (fun _ => by kernel_rfl) (fun w M => c_U32 0 w M.laid) ?_
      intro u9 M
      refine pl_nil ?_
      refine au_then ?_
      refine ⟨M, ?_⟩
      refine hl_val M 3 rfl (by decide) (by kernel_rfl) (by kernel_rfl) (want_no rfl) (some 18) rfl (.string ((be2 (cv .u64 f) ++ be2 (cv .u64 g)) ++ (be4 (cv .u64 0)))) (fun w _ => (run_cat 9 9 _ _ rfl (be2 (cv .u64 f) ++ be2 (cv .u64 g)) (be4 (cv .u64 0)) (by kernel_rfl) (by kernel_rfl) (by (try simp only [ByteArray.size_append, ByteArray.size_extract, be2_size, be4_size, be8_size, bs_size, sz_mk, List.size_toArray, List.length_cons, List.length_nil]); omega)) w) ?_
      exact hA _ _ _ _ (s3 _ _  _ (by kernel_rfl) (by kernel_rfl) M)
    · skip
      refine pl_mk M (want_no rfl) (some 22) rfl (fun g5 => .slice (some ⟨g5, 0, none⟩) 4 4) (.cells (av 4 (ls [.int .u8 80, .int .u8 q, .int .u8 255, .int .u8 255])) 5) (fun _ => by kernel_rfl) ?_
      intro g5 u9 M
      replace M : Mem ⟨w, []⟩ [⟨g1, .cells (av 4 (ls [.bool (v0), .int .u64 h0, .int .u64 l0, .int .u16 f])) 40⟩, ⟨g2, .cells (av 4 (ls [.bool (v1), .int .u64 h1, .int .u64 l1, .int .u16 g])) 40⟩, ⟨g3, .cells (av 9 (ls [.bool false, .int .u64 0, .int .u64 0, .bool false, .int .u64 0, .int .u64 0, .int .u8 0, .int .u8 0, .string ⟨#[]⟩])) 26⟩, ⟨g4, .cells (av 9 (ls [.int .u8 6, .bool (v0), .int .u64 h0, .int .u64 l0, .bool (v1), .int .u64 h1, .int .u64 l1, .int .u16 f, .int .u16 g])) 29⟩, ⟨g5, .cells (av 4 (ls [.int .u8 80, .int .u8 q, .int .u8 255, .int .u8 255])) 5⟩] u9 := M
      refine pl_nil ?_
      refine au_then ?_
      refine ⟨(M.drop (.cons_cons _ (.cons_cons _ (.cons_cons _ (.cons_cons _ (.cons _ (.slnil))))))), ?_⟩
      exact hA _ _ _ _ (s4 _ _ g5 _ (by kernel_rfl) (by kernel_rfl) M)
  have s2 : ∀ (a : Act) (l : Array Bool) (g5 : Nat) (w0 : World), a = ⟨#[.agg (av 4 (ls [.bool (v0), .int .u64 h0, .int .u64 l0, .int .u16 f])), .agg (av 4 (ls [.bool (v1), .int .u64 h1, .int .u64 l1, .int .u16 g])), .int .u8 q, .string d, .pointer (some ⟨g1, 0, none⟩), .pointer (some ⟨g2, 0, none⟩), undef, undef, .pointer (some ⟨g3, 0, none⟩), .int .i64 0, .pointer (some ⟨g4, 0, none⟩), undef, .agg (av 4 (ls [.bool (v0), .int .u64 h0, .int .u64 l0, .int .u16 f])), .agg (av 4 (ls [.bool (v1), .int .u64 h1, .int .u64 l1, .int .u16 g])), .agg (av 9 (ls [.int .u8 6, .bool (v0), .int .u64 h0, .int .u64 l0, .bool (v1), .int .u64 h1, .int .u64 l1, .int .u16 f, .int .u16 g])), .agg (av 9 (ls [.int .u8 6, .bool (v0), .int .u64 h0, .int .u64 l0, .bool (v1), .int .u64 h1, .int .u64 l1, .int .u16 f, .int .u16 g])), undef, undef, undef, undef, undef, .int .u8 q, .slice (some ⟨g5, 0, none⟩) 4 4, undef, undef, undef, undef, undef, undef, undef, undef, undef], []⟩ → l = #[true, false, false, false, false, false, true, true, false, false, false] → Mem ⟨w, []⟩ [⟨g1, .cells (av 4 (ls [.bool (v0), .int .u64 h0, .int .u64 l0, .int .u16 f])) 40⟩, ⟨g2, .cells (av 4 (ls [.bool (v1), .int .u64 h1, .int .u64 l1, .int .u16 g])) 40⟩, ⟨g3, .cells (av 9 (ls [.bool false, .int .u64 0, .int .u64 0, .bool false, .int .u64 0, .int .u64 0, .int .u8 0, .int .u8 0, .string ⟨#[]⟩])) 26⟩, ⟨g4, .cells (av 9 (ls [.int .u8 6, .bool (v0), .int .u64 h0, .int .u64 l0, .bool (v1), .int .u64 h1, .int .u64 l1, .int .u16 f, .int .u16 g])) 29⟩, ⟨g5, .cells (av 4 (ls [.int .u8 80, .int .u8 q, .int .u8 255, .int .u8 255])) 5⟩] w0 → H 8 l a w0 := by
    intro a l g5  u0 ha hl M
    subst ha hl
    refine hB _ _ _ _ ?_
    refine hl_two 1 8 (by decide) (by decide) (by kernel_rfl) rfl rfl ?_ ?_
    · skip
      refine pl_call M (want_no rfl) (some 16) rfl 30 #[.agg (av 9 (ls [.int .u8 6, .bool (v0), .int .u64 h0, .int .u64 l0, .bool (v1), .int .u64 h1, .int .u64 l1, .int .u16 f, .int .u16 g]))] (.string (be2 (cv .u64 f) ++ be2 (cv .u64 g))) (fun _ => by kernel_rfl) (fun w M => c_portBytes 6 v0 h0 l0 v1 h1 l1 f g w M.laid) ?_
      intro u9 M
      refine pl_nil ?_
      refine au_then ?_
      refine ⟨(M.drop (.cons_cons _ (.cons_cons _ (.cons_cons _ (.cons_cons _ (.cons _ (.slnil))))))), ?_⟩
      exact hA _ _ _ _ (s4 _ _ g5 _ (by kernel_rfl) (by kernel_rfl) M)
    · skip
      refine pl_back M (want_no rfl) (some 23) rfl _ rfl 4 g5 4 4 (by kernel_rfl) _ rfl [80, q, 255, 255] 4 (sb_ls [80, q, 255, 255] _) rfl (by intro x hx; simp only [List.mem_cons, List.mem_nil_iff, or_false] at hx; rcases hx with rfl | rfl | rfl | rfl <;> omega) ?_
      refine pl_nil ?_
      refine au_then ?_
      refine ⟨(M.drop (.cons_cons _ (.cons_cons _ (.cons_cons _ (.cons_cons _ (.cons _ (.slnil))))))), ?_⟩
      exact hA _ _ _ _ (s5 _ _ (.slice (some ⟨g5, 0, none⟩) 4 4) _ (by kernel_rfl) (by kernel_rfl) (M.drop (.cons_cons _ (.cons_cons _ (.cons_cons _ (.cons_cons _ (.cons _ (.slnil))))))))
  have s0 : ∀ (a : Act) (l : Array Bool) (w0 : World), a = ⟨#[.agg (av 4 (ls [.bool (v0), .int .u64 h0, .int .u64 l0, .int .u16 f])), .agg (av 4 (ls [.bool (v1), .int .u64 h1, .int .u64 l1, .int .u16 g])), .int .u8 q, .string d, .pointer (some ⟨g1, 0, none⟩), .pointer (some ⟨g2, 0, none⟩), undef, undef, .pointer (some ⟨g3, 0, none⟩), .int .i64 0, .pointer (some ⟨g4, 0, none⟩), undef, .agg (av 4 (ls [.bool (v0), .int .u64 h0, .int .u64 l0, .int .u16 f])), .agg (av 4 (ls [.bool (v1), .int .u64 h1, .int .u64 l1, .int .u16 g])), .agg (av 9 (ls [.int .u8 6, .bool (v0), .int .u64 h0, .int .u64 l0, .bool (v1), .int .u64 h1, .int .u64 l1, .int .u16 f, .int .u16 g])), .agg (av 9 (ls [.int .u8 6, .bool (v0), .int .u64 h0, .int .u64 l0, .bool (v1), .int .u64 h1, .int .u64 l1, .int .u16 f, .int .u16 g])), undef, undef, undef, undef, undef, .int .u8 q, undef, undef, undef, undef, undef, undef, undef, undef, undef, undef], []⟩ → l = #[true, false, false, false, false, false, true, false, false, false, false] → Mem ⟨w, []⟩ [⟨g1, .cells (av 4 (ls [.bool (v0), .int .u64 h0, .int .u64 l0, .int .u16 f])) 40⟩, ⟨g2, .cells (av 4 (ls [.bool (v1), .int .u64 h1, .int .u64 l1, .int .u16 g])) 40⟩, ⟨g3, .cells (av 9 (ls [.bool false, .int .u64 0, .int .u64 0, .bool false, .int .u64 0, .int .u64 0, .int .u8 0, .int .u8 0, .string ⟨#[]⟩])) 26⟩, ⟨g4, .cells (av 9 (ls [.int .u8 6, .bool (v0), .int .u64 h0, .int .u64 l0, .bool (v1), .int .u64 h1, .int .u64 l1, .int .u16 f, .int .u16 g])) 29⟩] w0 → H 9 l a w0 := by
    intro a l   u0 ha hl M
    subst ha hl
    refine hB _ _ _ _ ?_
    refine hl_two 1 7 (by decide) (by decide) (by kernel_rfl) rfl rfl ?_ ?_
    · skip
      refine pl_call M (want_no rfl) (some 16) rfl 30 #[.agg (av 9 (ls [.int .u8 6, .bool (v0), .int .u64 h0, .int .u64 l0, .bool (v1), .int .u64 h1, .int .u64 l1, .int .u16 f, .int .u16 g]))] (.string (be2 (cv .u64 f) ++ be2 (cv .u64 g))) (fun _ => by kernel_rfl) (fun w M => c_portBytes 6 v0 h0 l0 v1 h1 l1 f g w M.laid) ?_
      intro u8 M
      refine pl_nil ?_
      refine au_then ?_
      refine ⟨M, ?_⟩
      exact hA _ _ _ _ (s1 _ _  _ (by kernel_rfl) (by kernel_rfl) M)
    · skip
      refine pl_mk M (want_no rfl) (some 22) rfl (fun g5 => .slice (some ⟨g5, 0, none⟩) 4 4) (.cells (av 4 (ls [.int .u8 80, .int .u8 q, .int .u8 255, .int .u8 255])) 5) (fun _ => by kernel_rfl) ?_
      intro g5 u8 M
      replace M : Mem ⟨w, []⟩ [⟨g1, .cells (av 4 (ls [.bool (v0), .int .u64 h0, .int .u64 l0, .int .u16 f])) 40⟩, ⟨g2, .cells (av 4 (ls [.bool (v1), .int .u64 h1, .int .u64 l1, .int .u16 g])) 40⟩, ⟨g3, .cells (av 9 (ls [.bool false, .int .u64 0, .int .u64 0, .bool false, .int .u64 0, .int .u64 0, .int .u8 0, .int .u8 0, .string ⟨#[]⟩])) 26⟩, ⟨g4, .cells (av 9 (ls [.int .u8 6, .bool (v0), .int .u64 h0, .int .u64 l0, .bool (v1), .int .u64 h1, .int .u64 l1, .int .u16 f, .int .u16 g])) 29⟩, ⟨g5, .cells (av 4 (ls [.int .u8 80, .int .u8 q, .int .u8 255, .int .u8 255])) 5⟩] u8 := M
      refine pl_nil ?_
      refine au_then ?_
      refine ⟨(M.drop (.cons_cons _ (.cons_cons _ (.cons_cons _ (.cons_cons _ (.cons _ (.slnil))))))), ?_⟩
      exact hA _ _ _ _ (s2 _ _ g5 _ (by kernel_rfl) (by kernel_rfl) M)
  exact s0 _ _  _ (by kernel_rfl) (by kernel_rfl) M

theorem c_kindOf (p : Int) (r : Bool) (w : World) (hL : Laid w) : Calls Try.prog 36 #[.int .u8 p, .bool r] w fun e w' => e = .returned (.int .u8 (kO p r)) ∧ Below w.heap.size w w' := by
  cases r
  · exact c_kindOfF p w hL
  · exact c_kindOfT p w hL
set_option maxRecDepth 100000 in
set_option maxHeartbeats 4000000 in
set_option linter.unusedSimpArgs false in
theorem c_Echo (v0 : Bool) (h0 l0 : Int) (v1 : Bool) (h1 l1 : Int) (f : Int) (rp : Bool) (d : ByteArray) (hd : d.size ≤ 8192) (w : World) (hL : Laid w)  :
    Calls Try.prog 18 #[.agg (av 3 (ls [.bool (v0), .int .u64 h0, .int .u64 l0])), .agg (av 3 (ls [.bool (v1), .int .u64 h1, .int .u64 l1])), .int .u16 f, .bool (rp), .string d] w fun r w' => r = .returned (.tuple #[.agg (av 9 (ls [.bool (zB (pkE v0 h0 l0 v1 h1 l1 (ehA (kO (eP v0) rp)) (ehB f d)) v0), .int .u64 (zI (pkE v0 h0 l0 v1 h1 l1 (ehA (kO (eP v0) rp)) (ehB f d)) h0), .int .u64 (zI (pkE v0 h0 l0 v1 h1 l1 (ehA (kO (eP v0) rp)) (ehB f d)) l0), .bool (zB (pkE v0 h0 l0 v1 h1 l1 (ehA (kO (eP v0) rp)) (ehB f d)) v1), .int .u64 (zI (pkE v0 h0 l0 v1 h1 l1 (ehA (kO (eP v0) rp)) (ehB f d)) h1), .int .u64 (zI (pkE v0 h0 l0 v1 h1 l1 (ehA (kO (eP v0) rp)) (ehB f d)) l1), .int .u8 (zI (pkE v0 h0 l0 v1 h1 l1 (ehA (kO (eP v0) rp)) (ehB f d)) (eP v0)), .int .u8 (zI (pkE v0 h0 l0 v1 h1 l1 (ehA (kO (eP v0) rp)) (ehB f d)) 64), .string (zS (pkE v0 h0 l0 v1 h1 l1 (ehA (kO (eP v0) rp)) (ehB f d)) (pkO v0 h0 l0 v1 h1 l1 (eP v0) (ehA (kO (eP v0) rp)) (ehB f d)))])), .int .i64 (pkE v0 h0 l0 v1 h1 l1 (ehA (kO (eP v0) rp)) (ehB f d))]) ∧ Below w.heap.size w w' := by
  go_enter Try.func18, Try.ntmps18
  have M := Mem.start hL
  refine wp_seq ?_
  refine rg_lit ?_
  refine pl_new M (want_no rfl) (some 5) rfl (.cells (av 3 (ls [.bool (v0), .int .u64 h0, .int .u64 l0])) 24) (fun _ => by kernel_rfl) ?_
  intro g1 u1 M
  replace M : Mem ⟨w, []⟩ [⟨g1, .cells (av 3 (ls [.bool (v0), .int .u64 h0, .int .u64 l0])) 24⟩] u1 := M
  refine pl_new M (want_no rfl) (some 6) rfl (.cells (av 3 (ls [.bool (v1), .int .u64 h1, .int .u64 l1])) 24) (fun _ => by kernel_rfl) ?_
  intro g2 u2 M
  replace M : Mem ⟨w, []⟩ [⟨g1, .cells (av 3 (ls [.bool (v0), .int .u64 h0, .int .u64 l0])) 24⟩, ⟨g2, .cells (av 3 (ls [.bool (v1), .int .u64 h1, .int .u64 l1])) 24⟩] u2 := M
  refine pl_new M (want_no rfl) (some 10) rfl (.cells (av 9 (ls [.bool false, .int .u64 0, .int .u64 0, .bool false, .int .u64 0, .int .u64 0, .int .u8 0, .int .u8 0, .string ⟨#[]⟩])) 26) (fun _ => by kernel_rfl) ?_
  intro g3 u3 M
  replace M : Mem ⟨w, []⟩ [⟨g1, .cells (av 3 (ls [.bool (v0), .int .u64 h0, .int .u64 l0])) 24⟩, ⟨g2, .cells (av 3 (ls [.bool (v1), .int .u64 h1, .int .u64 l1])) 24⟩, ⟨g3, .cells (av 9 (ls [.bool false, .int .u64 0, .int .u64 0, .bool false, .int .u64 0, .int .u64 0, .int .u8 0, .int .u8 0, .string ⟨#[]⟩])) 26⟩] u3 := M
  refine pl_val (want_no rfl) (some 11) rfl (.int .i64 0) (fun _ => by kernel_rfl) ?_
  refine pl_nil ?_
  refine au_then ?_
  refine wp_seq ?_
  refine rg_lit ?_
  refine pl_load M (want_no rfl) (some 13) rfl 24 _ rfl 0 g1 0 (by kernel_rfl) 3 24 (ls [.bool (v0), .int .u64 h0, .int .u64 l0]) rfl 3 (ls [.bool (v0), .int .u64 h0, .int .u64 l0]) (fun j _ => by rw [Nat.zero_add]) (by decide) _ Try.underlying24 rfl inz24 ?_
  refine pl_load M (want_no rfl) (some 14) rfl 24 _ rfl 1 g2 0 (by kernel_rfl) 3 24 (ls [.bool (v1), .int .u64 h1, .int .u64 l1]) rfl 3 (ls [.bool (v1), .int .u64 h1, .int .u64 l1]) (fun j _ => by rw [Nat.zero_add]) (by decide) _ Try.underlying24 rfl inz24 ?_
  refine pl_val (want_no rfl) (some 15) rfl (.int .u16 f) (fun _ => by kernel_rfl) ?_
  refine pl_call M (want_no rfl) (some 16) rfl 35 #[.agg (av 3 (ls [.bool (v0), .int .u64 h0, .int .u64 l0])), .agg (av 3 (ls [.bool (v1), .int .u64 h1, .int .u64 l1])), .int .u16 f] (.agg (av 9 (ls [.int .u8 (eP v0), .bool (v0), .int .u64 h0, .int .u64 l0, .bool (v1), .int .u64 h1, .int .u64 l1, .int .u16 f, .int .u16 f]))) (fun _ => by kernel_rfl) (fun w M => c_echoFlow v0 h0 l0 v1 h1 l1 f w M.laid) ?_
  intro u4 M
  refine pl_new M (want_no rfl) (some 12) rfl (.cells (av 9 (ls [.int .u8 0, .bool false, .int .u64 0, .int .u64 0, .bool false, .int .u64 0, .int .u64 0, .int .u16 0, .int .u16 0])) 29) (fun _ => by kernel_rfl) ?_
  intro g4 u5 M
  replace M : Mem ⟨w, []⟩ [⟨g1, .cells (av 3 (ls [.bool (v0), .int .u64 h0, .int .u64 l0])) 24⟩, ⟨g2, .cells (av 3 (ls [.bool (v1), .int .u64 h1, .int .u64 l1])) 24⟩, ⟨g3, .cells (av 9 (ls [.bool false, .int .u64 0, .int .u64 0, .bool false, .int .u64 0, .int .u64 0, .int .u8 0, .int .u8 0, .string ⟨#[]⟩])) 26⟩, ⟨g4, .cells (av 9 (ls [.int .u8 0, .bool false, .int .u64 0, .int .u64 0, .bool false, .int .u64 0, .int .u64 0, .int .u16 0, .int .u16 0])) 29⟩] u5 := M
  refine pl_put M (want_no rfl) rfl 29 _ _ rfl 3 g4 0 (by kernel_rfl) 9 29 (ls [.int .u8 0, .bool false, .int .u64 0, .int .u64 0, .bool false, .int .u64 0, .int .u64 0, .int .u16 0, .int .u16 0]) rfl 9 (ls [.int .u8 (eP v0), .bool (v0), .int .u64 h0, .int .u64 l0, .bool (v1), .int .u64 h1, .int .u64 l1, .int .u16 f, .int .u16 f]) (ls [.int .u8 (eP v0), .bool (v0), .int .u64 h0, .int .u64 l0, .bool (v1), .int .u64 h1, .int .u64 l1, .int .u16 f, .int .u16 f]) (by kernel_rfl) inz29 (by decide) (one_ls _ rfl) (fun j hj => by rw [if_pos (by omega), Nat.sub_zero]) ?_
  intro u6 M
  replace M : Mem ⟨w, []⟩ [⟨g1, .cells (av 3 (ls [.bool (v0), .int .u64 h0, .int .u64 l0])) 24⟩, ⟨g2, .cells (av 3 (ls [.bool (v1), .int .u64 h1, .int .u64 l1])) 24⟩, ⟨g3, .cells (av 9 (ls [.bool false, .int .u64 0, .int .u64 0, .bool false, .int .u64 0, .int .u64 0, .int .u8 0, .int .u8 0, .string ⟨#[]⟩])) 26⟩, ⟨g4, .cells (av 9 (ls [.int .u8 (eP v0), .bool (v0), .int .u64 h0, .int .u64 l0, .bool (v1), .int .u64 h1, .int .u64 l1, .int .u16 f, .int .u16 f])) 29⟩] u6 := M
  refine pl_nil ?_
  refine au_then ?_
  refine wp_seq ?_
  refine rg_held M [⟨g1, .cells (av 3 (ls [.bool (v0), .int .u64 h0, .int .u64 l0])) 24⟩, ⟨g2, .cells (av 3 (ls [.bool (v1), .int .u64 h1, .int .u64 l1])) 24⟩, ⟨g4, .cells (av 9 (ls [.int .u8 (eP v0), .bool (v0), .int .u64 h0, .int .u64 l0, .bool (v1), .int .u64 h1, .int .u64 l1, .int .u16 f, .int .u16 f])) 29⟩] 16 rfl (by kernel_rfl) (by kernel_rfl) (fun _ _ d _ _ h => by cases d <;> exact h) ?_
  intro u7 M
  replace M : Mem ⟨w, []⟩ [⟨g1, .cells (av 3 (ls [.bool (v0), .int .u64 h0, .int .u64 l0])) 24⟩, ⟨g2, .cells (av 3 (ls [.bool (v1), .int .u64 h1, .int .u64 l1])) 24⟩, ⟨g3, .cells (av 9 (ls [.bool false, .int .u64 0, .int .u64 0, .bool false, .int .u64 0, .int .u64 0, .int .u8 0, .int .u8 0, .string ⟨#[]⟩])) 26⟩, ⟨g4, .cells (av 9 (ls [.int .u8 (eP v0), .bool (v0), .int .u64 h0, .int .u64 l0, .bool (v1), .int .u64 h1, .int .u64 l1, .int .u16 f, .int .u16 f])) 29⟩] u7 := M
  refine hl_load (M.drop (.cons_cons _ (.cons_cons _ (.cons _ (.cons_cons _ (.slnil)))))) 0 rfl (by decide) (by kernel_rfl) (by kernel_rfl) (want_no rfl) (some 17) rfl 29 _ rfl 2 g4 0 (by kernel_rfl) 9 29 (ls [.int .u8 (eP v0), .bool (v0), .int .u64 h0, .int .u64 l0, .bool (v1), .int .u64 h1, .int .u64 l1, .int .u16 f, .int .u16 f]) rfl 9 (ls [.int .u8 (eP v0), .bool (v0), .int .u64 h0, .int .u64 l0, .bool (v1), .int .u64 h1, .int .u64 l1, .int .u16 f, .int .u16 f]) (fun j _ => by rw [Nat.zero_add]) (by decide) _ Try.underlying29 rfl inz29 ?_
  refine hl_val (M.drop (.cons_cons _ (.cons_cons _ (.cons _ (.cons_cons _ (.slnil)))))) 1 rfl (by decide) (by kernel_rfl) (by kernel_rfl) (want_no rfl) (some 18) rfl (.pointer (some ⟨g4, 0, none⟩)) (fun _ _ => by kernel_rfl) ?_
  refine hl_cell (M.drop (.cons_cons _ (.cons_cons _ (.cons _ (.cons_cons _ (.slnil)))))) 2 rfl (by decide) (by kernel_rfl) (by kernel_rfl) (want_no rfl) (some 19) rfl 5 _ rfl g4 0 (by kernel_rfl) (.int .u8 (eP v0)) (fun _ => by kernel_rfl) (fun w M => M.cell 2 rfl (by decide) rfl) ?_
  refine hl_val (M.drop (.cons_cons _ (.cons_cons _ (.cons _ (.cons_cons _ (.slnil)))))) 3 rfl (by decide) (by kernel_rfl) (by kernel_rfl) (want_no rfl) (some 20) rfl (.bool (rp)) (fun _ _ => by kernel_rfl) ?_
  refine hl_val (M.drop (.cons_cons _ (.cons_cons _ (.cons _ (.cons_cons _ (.slnil)))))) 7 rfl (by decide) (by kernel_rfl) (by kernel_rfl) (want_no rfl) (some 24) rfl (.int .u16 f) (fun _ _ => by kernel_rfl) ?_
  refine hl_val (M.drop (.cons_cons _ (.cons_cons _ (.cons _ (.cons_cons _ (.slnil)))))) 11 rfl (by decide) (by kernel_rfl) (by kernel_rfl) (want_no rfl) (some 28) rfl (.string d) (fun _ _ => by kernel_rfl) ?_
  refine hl_name ?_
  intro H hA hB
  have s11 : ∀ (a : Act) (l : Array Bool) (x_22 : Value) (w0 : World), a = ⟨#[.agg (av 3 (ls [.bool (v0), .int .u64 h0, .int .u64 l0])), .agg (av 3 (ls [.bool (v1), .int .u64 h1, .int .u64 l1])), .int .u16 f, .bool (rp), .string d, .pointer (some ⟨g1, 0, none⟩), .pointer (some ⟨g2, 0, none⟩), undef, undef, undef, .pointer (some ⟨g3, 0, none⟩), .int .i64 0, .pointer (some ⟨g4, 0, none⟩), .agg (av 3 (ls [.bool (v0), .int .u64 h0, .int .u64 l0])), .agg (av 3 (ls [.bool (v1), .int .u64 h1, .int .u64 l1])), .int .u16 f, .agg (av 9 (ls [.int .u8 (eP v0), .bool (v0), .int .u64 h0, .int .u64 l0, .bool (v1), .int .u64 h1, .int .u64 l1, .int .u16 f, .int .u16 f])), .agg (av 9 (ls [.int .u8 (eP v0), .bool (v0), .int .u64 h0, .int .u64 l0, .bool (v1), .int .u64 h1, .int .u64 l1, .int .u16 f, .int .u16 f])), .pointer (some ⟨g4, 0, none⟩), .int .u8 (eP v0), .bool (rp), .int .u8 (kO (eP v0) rp), x_22, .string (bs [(kO (eP v0) rp), 0]), .int .u16 f, .string (be2 (cv .u64 f)), .string (be2 (cv .u64 0)), .string ((be2 (cv .u64 f)) ++ (be2 (cv .u64 0))), .string d, .tuple #[.agg (av 9 (ls [.bool (zB (pkE v0 h0 l0 v1 h1 l1 (ehA (kO (eP v0) rp)) (ehB f d)) v0), .int .u64 (zI (pkE v0 h0 l0 v1 h1 l1 (ehA (kO (eP v0) rp)) (ehB f d)) h0), .int .u64 (zI (pkE v0 h0 l0 v1 h1 l1 (ehA (kO (eP v0) rp)) (ehB f d)) l0), .bool (zB (pkE v0 h0 l0 v1 h1 l1 (ehA (kO (eP v0) rp)) (ehB f d)) v1), .int .u64 (zI (pkE v0 h0 l0 v1 h1 l1 (ehA (kO (eP v0) rp)) (ehB f d)) h1), .int .u64 (zI (pkE v0 h0 l0 v1 h1 l1 (ehA (kO (eP v0) rp)) (ehB f d)) l1), .int .u8 (zI (pkE v0 h0 l0 v1 h1 l1 (ehA (kO (eP v0) rp)) (ehB f d)) (eP v0)), .int .u8 (zI (pkE v0 h0 l0 v1 h1 l1 (ehA (kO (eP v0) rp)) (ehB f d)) 64), .string (zS (pkE v0 h0 l0 v1 h1 l1 (ehA (kO (eP v0) rp)) (ehB f d)) (pkO v0 h0 l0 v1 h1 l1 (eP v0) (ehA (kO (eP v0) rp)) (ehB f d)))])), .int .i64 (pkE v0 h0 l0 v1 h1 l1 (ehA (kO (eP v0) rp)) (ehB f d))], .agg (av 9 (ls [.bool (zB (pkE v0 h0 l0 v1 h1 l1 (ehA (kO (eP v0) rp)) (ehB f d)) v0), .int .u64 (zI (pkE v0 h0 l0 v1 h1 l1 (ehA (kO (eP v0) rp)) (ehB f d)) h0), .int .u64 (zI (pkE v0 h0 l0 v1 h1 l1 (ehA (kO (eP v0) rp)) (ehB f d)) l0), .bool (zB (pkE v0 h0 l0 v1 h1 l1 (ehA (kO (eP v0) rp)) (ehB f d)) v1), .int .u64 (zI (pkE v0 h0 l0 v1 h1 l1 (ehA (kO (eP v0) rp)) (ehB f d)) h1), .int .u64 (zI (pkE v0 h0 l0 v1 h1 l1 (ehA (kO (eP v0) rp)) (ehB f d)) l1), .int .u8 (zI (pkE v0 h0 l0 v1 h1 l1 (ehA (kO (eP v0) rp)) (ehB f d)) (eP v0)), .int .u8 (zI (pkE v0 h0 l0 v1 h1 l1 (ehA (kO (eP v0) rp)) (ehB f d)) 64), .string (zS (pkE v0 h0 l0 v1 h1 l1 (ehA (kO (eP v0) rp)) (ehB f d)) (pkO v0 h0 l0 v1 h1 l1 (eP v0) (ehA (kO (eP v0) rp)) (ehB f d)))])), .int .i64 (pkE v0 h0 l0 v1 h1 l1 (ehA (kO (eP v0) rp)) (ehB f d))], []⟩ → l = #[true, true, true, true, true, true, true, true, true, true, true, true, true, true, true, true, false] → Mem ⟨w, []⟩ [⟨g1, .cells (av 3 (ls [.bool (v0), .int .u64 h0, .int .u64 l0])) 24⟩, ⟨g2, .cells (av 3 (ls [.bool (v1), .int .u64 h1, .int .u64 l1])) 24⟩, ⟨g3, .cells (av 9 (ls [.bool (zB (pkE v0 h0 l0 v1 h1 l1 (ehA (kO (eP v0) rp)) (ehB f d)) v0), .int .u64 (zI (pkE v0 h0 l0 v1 h1 l1 (ehA (kO (eP v0) rp)) (ehB f d)) h0), .int .u64 (zI (pkE v0 h0 l0 v1 h1 l1 (ehA (kO (eP v0) rp)) (ehB f d)) l0), .bool (zB (pkE v0 h0 l0 v1 h1 l1 (ehA (kO (eP v0) rp)) (ehB f d)) v1), .int .u64 (zI (pkE v0 h0 l0 v1 h1 l1 (ehA (kO (eP v0) rp)) (ehB f d)) h1), .int .u64 (zI (pkE v0 h0 l0 v1 h1 l1 (ehA (kO (eP v0) rp)) (ehB f d)) l1), .int .u8 (zI (pkE v0 h0 l0 v1 h1 l1 (ehA (kO (eP v0) rp)) (ehB f d)) (eP v0)), .int .u8 (zI (pkE v0 h0 l0 v1 h1 l1 (ehA (kO (eP v0) rp)) (ehB f d)) 64), .string (zS (pkE v0 h0 l0 v1 h1 l1 (ehA (kO (eP v0) rp)) (ehB f d)) (pkO v0 h0 l0 v1 h1 l1 (eP v0) (ehA (kO (eP v0) rp)) (ehB f d)))])) 26⟩, ⟨g4, .cells (av 9 (ls [.int .u8 (eP v0), .bool (v0), .int .u64 h0, .int .u64 l0, .bool (v1), .int .u64 h1, .int .u64 l1, .int .u16 f, .int .u16 f])) 29⟩] w0 → H 1 l a w0 := by
    intro a l  x_22 u0 ha hl M
    subst ha hl
    refine hB _ _ _ _ ?_
    refine hl_end (by kernel_rfl) (by kernel_rfl) rfl ?_
    refine pl_val (want_no rfl) (some 11) rfl (.int .i64 (pkE v0 h0 l0 v1 h1 l1 (ehA (kO (eP v0) rp)) (ehB f d))) (fun _ => by kernel_rfl) ?_
    refine pl_nil ?_
    refine au_then ?_
    refine au_then ?_
    refine wp_ret ?_
    exact bodyPost_ret (v := .tuple #[.agg (av 9 (ls [.bool (zB (pkE v0 h0 l0 v1 h1 l1 (ehA (kO (eP v0) rp)) (ehB f d)) v0), .int .u64 (zI (pkE v0 h0 l0 v1 h1 l1 (ehA (kO (eP v0) rp)) (ehB f d)) h0), .int .u64 (zI (pkE v0 h0 l0 v1 h1 l1 (ehA (kO (eP v0) rp)) (ehB f d)) l0), .bool (zB (pkE v0 h0 l0 v1 h1 l1 (ehA (kO (eP v0) rp)) (ehB f d)) v1), .int .u64 (zI (pkE v0 h0 l0 v1 h1 l1 (ehA (kO (eP v0) rp)) (ehB f d)) h1), .int .u64 (zI (pkE v0 h0 l0 v1 h1 l1 (ehA (kO (eP v0) rp)) (ehB f d)) l1), .int .u8 (zI (pkE v0 h0 l0 v1 h1 l1 (ehA (kO (eP v0) rp)) (ehB f d)) (eP v0)), .int .u8 (zI (pkE v0 h0 l0 v1 h1 l1 (ehA (kO (eP v0) rp)) (ehB f d)) 64), .string (zS (pkE v0 h0 l0 v1 h1 l1 (ehA (kO (eP v0) rp)) (ehB f d)) (pkO v0 h0 l0 v1 h1 l1 (eP v0) (ehA (kO (eP v0) rp)) (ehB f d)))])), .int .i64 (pkE v0 h0 l0 v1 h1 l1 (ehA (kO (eP v0) rp)) (ehB f d))]) (results_cell_tmp Try.results18 _ _ g3 26 (av 9 (ls [.bool (zB (pkE v0 h0 l0 v1 h1 l1 (ehA (kO (eP v0) rp)) (ehB f d)) v0), .int .u64 (zI (pkE v0 h0 l0 v1 h1 l1 (ehA (kO (eP v0) rp)) (ehB f d)) h0), .int .u64 (zI (pkE v0 h0 l0 v1 h1 l1 (ehA (kO (eP v0) rp)) (ehB f d)) l0), .bool (zB (pkE v0 h0 l0 v1 h1 l1 (ehA (kO (eP v0) rp)) (ehB f d)) v1), .int .u64 (zI (pkE v0 h0 l0 v1 h1 l1 (ehA (kO (eP v0) rp)) (ehB f d)) h1), .int .u64 (zI (pkE v0 h0 l0 v1 h1 l1 (ehA (kO (eP v0) rp)) (ehB f d)) l1), .int .u8 (zI (pkE v0 h0 l0 v1 h1 l1 (ehA (kO (eP v0) rp)) (ehB f d)) (eP v0)), .int .u8 (zI (pkE v0 h0 l0 v1 h1 l1 (ehA (kO (eP v0) rp)) (ehB f d)) 64), .string (zS (pkE v0 h0 l0 v1 h1 l1 (ehA (kO (eP v0) rp)) (ehB f d)) (pkO v0 h0 l0 v1 h1 l1 (eP v0) (ehA (kO (eP v0) rp)) (ehB f d)))])) (0, 0) _ _ (by kernel_rfl) (by kernel_rfl) (M.get 2 rfl) Try.underlying26 rfl (by rw [av_size]; exact inz26)) (by kernel_rfl) ⟨rfl, below_grown M.old⟩
  have s10 : ∀ (a : Act) (l : Array Bool) (x_22 : Value) (w0 : World), a = ⟨#[.agg (av 3 (ls [.bool (v0), .int .u64 h0, .int .u64 l0])), .agg (av 3 (ls [.bool (v1), .int .u64 h1, .int .u64 l1])), .int .u16 f, .bool (rp), .string d, .pointer (some ⟨g1, 0, none⟩), .pointer (some ⟨g2, 0, none⟩), undef, undef, undef, .pointer (some ⟨g3, 0, none⟩), .int .i64 0, .pointer (some ⟨g4, 0, none⟩), .agg (av 3 (ls [.bool (v0), .int .u64 h0, .int .u64 l0])), .agg (av 3 (ls [.bool (v1), .int .u64 h1, .int .u64 l1])), .int .u16 f, .agg (av 9 (ls [.int .u8 (eP v0), .bool (v0), .int .u64 h0, .int .u64 l0, .bool (v1), .int .u64 h1, .int .u64 l1, .int .u16 f, .int .u16 f])), .agg (av 9 (ls [.int .u8 (eP v0), .bool (v0), .int .u64 h0, .int .u64 l0, .bool (v1), .int .u64 h1, .int .u64 l1, .int .u16 f, .int .u16 f])), .pointer (some ⟨g4, 0, none⟩), .int .u8 (eP v0), .bool (rp), .int .u8 (kO (eP v0) rp), x_22, .string (bs [(kO (eP v0) rp), 0]), .int .u16 f, .string (be2 (cv .u64 f)), .string (be2 (cv .u64 0)), .string ((be2 (cv .u64 f)) ++ (be2 (cv .u64 0))), .string d, .tuple #[.agg (av 9 (ls [.bool (zB (pkE v0 h0 l0 v1 h1 l1 (ehA (kO (eP v0) rp)) (ehB f d)) v0), .int .u64 (zI (pkE v0 h0 l0 v1 h1 l1 (ehA (kO (eP v0) rp)) (ehB f d)) h0), .int .u64 (zI (pkE v0 h0 l0 v1 h1 l1 (ehA (kO (eP v0) rp)) (ehB f d)) l0), .bool (zB (pkE v0 h0 l0 v1 h1 l1 (ehA (kO (eP v0) rp)) (ehB f d)) v1), .int .u64 (zI (pkE v0 h0 l0 v1 h1 l1 (ehA (kO (eP v0) rp)) (ehB f d)) h1), .int .u64 (zI (pkE v0 h0 l0 v1 h1 l1 (ehA (kO (eP v0) rp)) (ehB f d)) l1), .int .u8 (zI (pkE v0 h0 l0 v1 h1 l1 (ehA (kO (eP v0) rp)) (ehB f d)) (eP v0)), .int .u8 (zI (pkE v0 h0 l0 v1 h1 l1 (ehA (kO (eP v0) rp)) (ehB f d)) 64), .string (zS (pkE v0 h0 l0 v1 h1 l1 (ehA (kO (eP v0) rp)) (ehB f d)) (pkO v0 h0 l0 v1 h1 l1 (eP v0) (ehA (kO (eP v0) rp)) (ehB f d)))])), .int .i64 (pkE v0 h0 l0 v1 h1 l1 (ehA (kO (eP v0) rp)) (ehB f d))], .agg (av 9 (ls [.bool (zB (pkE v0 h0 l0 v1 h1 l1 (ehA (kO (eP v0) rp)) (ehB f d)) v0), .int .u64 (zI (pkE v0 h0 l0 v1 h1 l1 (ehA (kO (eP v0) rp)) (ehB f d)) h0), .int .u64 (zI (pkE v0 h0 l0 v1 h1 l1 (ehA (kO (eP v0) rp)) (ehB f d)) l0), .bool (zB (pkE v0 h0 l0 v1 h1 l1 (ehA (kO (eP v0) rp)) (ehB f d)) v1), .int .u64 (zI (pkE v0 h0 l0 v1 h1 l1 (ehA (kO (eP v0) rp)) (ehB f d)) h1), .int .u64 (zI (pkE v0 h0 l0 v1 h1 l1 (ehA (kO (eP v0) rp)) (ehB f d)) l1), .int .u8 (zI (pkE v0 h0 l0 v1 h1 l1 (ehA (kO (eP v0) rp)) (ehB f d)) (eP v0)), .int .u8 (zI (pkE v0 h0 l0 v1 h1 l1 (ehA (kO (eP v0) rp)) (ehB f d)) 64), .string (zS (pkE v0 h0 l0 v1 h1 l1 (ehA (kO (eP v0) rp)) (ehB f d)) (pkO v0 h0 l0 v1 h1 l1 (eP v0) (ehA (kO (eP v0) rp)) (ehB f d)))])), .int .i64 (pkE v0 h0 l0 v1 h1 l1 (ehA (kO (eP v0) rp)) (ehB f d))], []⟩ → l = #[true, true, true, true, true, true, true, true, true, true, true, true, true, true, true, false, false] → Mem ⟨w, []⟩ [⟨g1, .cells (av 3 (ls [.bool (v0), .int .u64 h0, .int .u64 l0])) 24⟩, ⟨g2, .cells (av 3 (ls [.bool (v1), .int .u64 h1, .int .u64 l1])) 24⟩, ⟨g3, .cells (av 9 (ls [.bool false, .int .u64 0, .int .u64 0, .bool false, .int .u64 0, .int .u64 0, .int .u8 0, .int .u8 0, .string ⟨#[]⟩])) 26⟩, ⟨g4, .cells (av 9 (ls [.int .u8 (eP v0), .bool (v0), .int .u64 h0, .int .u64 l0, .bool (v1), .int .u64 h1, .int .u64 l1, .int .u16 f, .int .u16 f])) 29⟩] w0 → H 2 l a w0 := by
    intro a l  x_22 u0 ha hl M
    subst ha hl
    refine hB _ _ _ _ ?_
    refine hl_one 15 (by decide) (by kernel_rfl) rfl ?_
    refine pl_put M (want_no rfl) rfl 26 _ _ rfl 2 g3 0 (by kernel_rfl) 9 26 (ls [.bool false, .int .u64 0, .int .u64 0, .bool false, .int .u64 0, .int .u64 0, .int .u8 0, .int .u8 0, .string ⟨#[]⟩]) rfl 9 (ls [.bool (zB (pkE v0 h0 l0 v1 h1 l1 (ehA (kO (eP v0) rp)) (ehB f d)) v0), .int .u64 (zI (pkE v0 h0 l0 v1 h1 l1 (ehA (kO (eP v0) rp)) (ehB f d)) h0), .int .u64 (zI (pkE v0 h0 l0 v1 h1 l1 (ehA (kO (eP v0) rp)) (ehB f d)) l0), .bool (zB (pkE v0 h0 l0 v1 h1 l1 (ehA (kO (eP v0) rp)) (ehB f d)) v1), .int .u64 (zI (pkE v0 h0 l0 v1 h1 l1 (ehA (kO (eP v0) rp)) (ehB f d)) h1), .int .u64 (zI (pkE v0 h0 l0 v1 h1 l1 (ehA (kO (eP v0) rp)) (ehB f d)) l1), .int .u8 (zI (pkE v0 h0 l0 v1 h1 l1 (ehA (kO (eP v0) rp)) (ehB f d)) (eP v0)), .int .u8 (zI (pkE v0 h0 l0 v1 h1 l1 (ehA (kO (eP v0) rp)) (ehB f d)) 64), .string (zS (pkE v0 h0 l0 v1 h1 l1 (ehA (kO (eP v0) rp)) (ehB f d)) (pkO v0 h0 l0 v1 h1 l1 (eP v0) (ehA (kO (eP v0) rp)) (ehB f d)))]) (ls [.bool (zB (pkE v0 h0 l0 v1 h1 l1 (ehA (kO (eP v0) rp)) (ehB f d)) v0), .int .u64 (zI (pkE v0 h0 l0 v1 h1 l1 (ehA (kO (eP v0) rp)) (ehB f d)) h0), .int .u64 (zI (pkE v0 h0 l0 v1 h1 l1 (ehA (kO (eP v0) rp)) (ehB f d)) l0), .bool (zB (pkE v0 h0 l0 v1 h1 l1 (ehA (kO (eP v0) rp)) (ehB f d)) v1), .int .u64 (zI (pkE v0 h0 l0 v1 h1 l1 (ehA (kO (eP v0) rp)) (ehB f d)) h1), .int .u64 (zI (pkE v0 h0 l0 v1 h1 l1 (ehA (kO (eP v0) rp)) (ehB f d)) l1), .int .u8 (zI (pkE v0 h0 l0 v1 h1 l1 (ehA (kO (eP v0) rp)) (ehB f d)) (eP v0)), .int .u8 (zI (pkE v0 h0 l0 v1 h1 l1 (ehA (kO (eP v0) rp)) (ehB f d)) 64), .string (zS (pkE v0 h0 l0 v1 h1 l1 (ehA (kO (eP v0) rp)) (ehB f d)) (pkO v0 h0 l0 v1 h1 l1 (eP v0) (ehA (kO (eP v0) rp)) (ehB f d)))]) (by kernel_rfl) inz26 (by decide) (one_ls _ rfl) (fun j hj => by rw [if_pos (by omega), Nat.sub_zero]) ?_
    intro u13 M
    replace M : Mem ⟨w, []⟩ [⟨g1, .cells (av 3 (ls [.bool (v0), .int .u64 h0, .int .u64 l0])) 24⟩, ⟨g2, .cells (av 3 (ls [.bool (v1), .int .u64 h1, .int .u64 l1])) 24⟩, ⟨g3, .cells (av 9 (ls [.bool (zB (pkE v0 h0 l0 v1 h1 l1 (ehA (kO (eP v0) rp)) (ehB f d)) v0), .int .u64 (zI (pkE v0 h0 l0 v1 h1 l1 (ehA (kO (eP v0) rp)) (ehB f d)) h0), .int .u64 (zI (pkE v0 h0 l0 v1 h1 l1 (ehA (kO (eP v0) rp)) (ehB f d)) l0), .bool (zB (pkE v0 h0 l0 v1 h1 l1 (ehA (kO (eP v0) rp)) (ehB f d)) v1), .int .u64 (zI (pkE v0 h0 l0 v1 h1 l1 (ehA (kO (eP v0) rp)) (ehB f d)) h1), .int .u64 (zI (pkE v0 h0 l0 v1 h1 l1 (ehA (kO (eP v0) rp)) (ehB f d)) l1), .int .u8 (zI (pkE v0 h0 l0 v1 h1 l1 (ehA (kO (eP v0) rp)) (ehB f d)) (eP v0)), .int .u8 (zI (pkE v0 h0 l0 v1 h1 l1 (ehA (kO (eP v0) rp)) (ehB f d)) 64), .string (zS (pkE v0 h0 l0 v1 h1 l1 (ehA (kO (eP v0) rp)) (ehB f d)) (pkO v0 h0 l0 v1 h1 l1 (eP v0) (ehA (kO (eP v0) rp)) (ehB f d)))])) 26⟩, ⟨g4, .cells (av 9 (ls [.int .u8 (eP v0), .bool (v0), .int .u64 h0, .int .u64 l0, .bool (v1), .int .u64 h1, .int .u64 l1, .int .u16 f, .int .u16 f])) 29⟩] u13 := M
    refine pl_nil ?_
    refine au_then ?_
    refine ⟨(M.drop (.cons_cons _ (.cons_cons _ (.cons _ (.cons_cons _ (.slnil)))))), ?_⟩
    exact hA _ _ _ _ (s11 _ _ (x_22) _ (by kernel_rfl) (by kernel_rfl) M)
  have s9 : ∀ (a : Act) (l : Array Bool) (x_22 : Value) (w0 : World), a = ⟨#[.agg (av 3 (ls [.bool (v0), .int .u64 h0, .int .u64 l0])), .agg (av 3 (ls [.bool (v1), .int .u64 h1, .int .u64 l1])), .int .u16 f, .bool (rp), .string d, .pointer (some ⟨g1, 0, none⟩), .pointer (some ⟨g2, 0, none⟩), undef, undef, undef, .pointer (some ⟨g3, 0, none⟩), .int .i64 0, .pointer (some ⟨g4, 0, none⟩), .agg (av 3 (ls [.bool (v0), .int .u64 h0, .int .u64 l0])), .agg (av 3 (ls [.bool (v1), .int .u64 h1, .int .u64 l1])), .int .u16 f, .agg (av 9 (ls [.int .u8 (eP v0), .bool (v0), .int .u64 h0, .int .u64 l0, .bool (v1), .int .u64 h1, .int .u64 l1, .int .u16 f, .int .u16 f])), .agg (av 9 (ls [.int .u8 (eP v0), .bool (v0), .int .u64 h0, .int .u64 l0, .bool (v1), .int .u64 h1, .int .u64 l1, .int .u16 f, .int .u16 f])), .pointer (some ⟨g4, 0, none⟩), .int .u8 (eP v0), .bool (rp), .int .u8 (kO (eP v0) rp), x_22, .string (bs [(kO (eP v0) rp), 0]), .int .u16 f, .string (be2 (cv .u64 f)), .string (be2 (cv .u64 0)), .string ((be2 (cv .u64 f)) ++ (be2 (cv .u64 0))), .string d, undef, undef, undef], []⟩ → l = #[true, true, true, true, true, true, true, true, true, true, true, true, false, false, false, false, false] → Mem ⟨w, []⟩ [⟨g1, .cells (av 3 (ls [.bool (v0), .int .u64 h0, .int .u64 l0])) 24⟩, ⟨g2, .cells (av 3 (ls [.bool (v1), .int .u64 h1, .int .u64 l1])) 24⟩, ⟨g3, .cells (av 9 (ls [.bool false, .int .u64 0, .int .u64 0, .bool false, .int .u64 0, .int .u64 0, .int .u8 0, .int .u8 0, .string ⟨#[]⟩])) 26⟩, ⟨g4, .cells (av 9 (ls [.int .u8 (eP v0), .bool (v0), .int .u64 h0, .int .u64 l0, .bool (v1), .int .u64 h1, .int .u64 l1, .int .u16 f, .int .u16 f])) 29⟩] w0 → H 5 l a w0 := by
    intro a l  x_22 u0 ha hl M
    subst ha hl
    refine hB _ _ _ _ ?_
    refine hl_one 12 (by decide) (by kernel_rfl) rfl ?_
    refine pl_call M (want_no rfl) (some 29) rfl 29 #[.agg (av 9 (ls [.int .u8 (eP v0), .bool (v0), .int .u64 h0, .int .u64 l0, .bool (v1), .int .u64 h1, .int .u64 l1, .int .u16 f, .int .u16 f])), .string (bs [(kO (eP v0) rp), 0]), .string ((be2 (cv .u64 f)) ++ (be2 (cv .u64 0))), .string d] (.tuple #[.agg (av 9 (ls [.bool (zB (pkE v0 h0 l0 v1 h1 l1 (ehA (kO (eP v0) rp)) (ehB f d)) v0), .int .u64 (zI (pkE v0 h0 l0 v1 h1 l1 (ehA (kO (eP v0) rp)) (ehB f d)) h0), .int .u64 (zI (pkE v0 h0 l0 v1 h1 l1 (ehA (kO (eP v0) rp)) (ehB f d)) l0), .bool (zB (pkE v0 h0 l0 v1 h1 l1 (ehA (kO (eP v0) rp)) (ehB f d)) v1), .int .u64 (zI (pkE v0 h0 l0 v1 h1 l1 (ehA (kO (eP v0) rp)) (ehB f d)) h1), .int .u64 (zI (pkE v0 h0 l0 v1 h1 l1 (ehA (kO (eP v0) rp)) (ehB f d)) l1), .int .u8 (zI (pkE v0 h0 l0 v1 h1 l1 (ehA (kO (eP v0) rp)) (ehB f d)) (eP v0)), .int .u8 (zI (pkE v0 h0 l0 v1 h1 l1 (ehA (kO (eP v0) rp)) (ehB f d)) 64), .string (zS (pkE v0 h0 l0 v1 h1 l1 (ehA (kO (eP v0) rp)) (ehB f d)) (pkO v0 h0 l0 v1 h1 l1 (eP v0) (ehA (kO (eP v0) rp)) (ehB f d)))])), .int .i64 (pkE v0 h0 l0 v1 h1 l1 (ehA (kO (eP v0) rp)) (ehB f d))]) (fun _ => by kernel_rfl) (fun w M => call_val (c_packetOf v0 h0 l0 v1 h1 l1 (eP v0) f f (bs [(kO (eP v0) rp), 0]) ((be2 (cv .u64 f)) ++ (be2 (cv .u64 0))) d (by (try simp only [ByteArray.size_append, ByteArray.size_extract, be2_size, be4_size, be8_size, bs_size, sz_mk, List.size_toArray, List.length_cons, List.length_nil]); omega) (by (try simp only [ByteArray.size_append, ByteArray.size_extract, be2_size, be4_size, be8_size, bs_size, sz_mk, List.size_toArray, List.length_cons, List.length_nil]); omega) (by omega) (eP_nn v0) w M.laid) (by rfl)) ?_
    intro u12 M
    refine pl_nil ?_
    refine au_then ?_
    refine ⟨(M.drop (.cons_cons _ (.cons_cons _ (.cons _ (.cons_cons _ (.slnil)))))), ?_⟩
    refine hl_val (M.drop (.cons_cons _ (.cons_cons _ (.cons _ (.cons_cons _ (.slnil)))))) 13 rfl (by decide) (by kernel_rfl) (by kernel_rfl) (want_no rfl) (some 30) rfl (.agg (av 9 (ls [.bool (zB (pkE v0 h0 l0 v1 h1 l1 (ehA (kO (eP v0) rp)) (ehB f d)) v0), .int .u64 (zI (pkE v0 h0 l0 v1 h1 l1 (ehA (kO (eP v0) rp)) (ehB f d)) h0), .int .u64 (zI (pkE v0 h0 l0 v1 h1 l1 (ehA (kO (eP v0) rp)) (ehB f d)) l0), .bool (zB (pkE v0 h0 l0 v1 h1 l1 (ehA (kO (eP v0) rp)) (ehB f d)) v1), .int .u64 (zI (pkE v0 h0 l0 v1 h1 l1 (ehA (kO (eP v0) rp)) (ehB f d)) h1), .int .u64 (zI (pkE v0 h0 l0 v1 h1 l1 (ehA (kO (eP v0) rp)) (ehB f d)) l1), .int .u8 (zI (pkE v0 h0 l0 v1 h1 l1 (ehA (kO (eP v0) rp)) (ehB f d)) (eP v0)), .int .u8 (zI (pkE v0 h0 l0 v1 h1 l1 (ehA (kO (eP v0) rp)) (ehB f d)) 64), .string (zS (pkE v0 h0 l0 v1 h1 l1 (ehA (kO (eP v0) rp)) (ehB f d)) (pkO v0 h0 l0 v1 h1 l1 (eP v0) (ehA (kO (eP v0) rp)) (ehB f d)))]))) (fun _ _ => by kernel_rfl) ?_
    refine hl_val (M.drop (.cons_cons _ (.cons_cons _ (.cons _ (.cons_cons _ (.slnil)))))) 14 rfl (by decide) (by kernel_rfl) (by kernel_rfl) (want_no rfl) (some 31) rfl (.int .i64 (pkE v0 h0 l0 v1 h1 l1 (ehA (kO (eP v0) rp)) (ehB f d))) (fun _ _ => by kernel_rfl) ?_
    exact hA _ _ _ _ (s10 _ _ (x_22) _ (by kernel_rfl) (by kernel_rfl) M)
  have s8 : ∀ (a : Act) (l : Array Bool) (g5 : Nat) (w0 : World), a = ⟨#[.agg (av 3 (ls [.bool (v0), .int .u64 h0, .int .u64 l0])), .agg (av 3 (ls [.bool (v1), .int .u64 h1, .int .u64 l1])), .int .u16 f, .bool (rp), .string d, .pointer (some ⟨g1, 0, none⟩), .pointer (some ⟨g2, 0, none⟩), undef, undef, undef, .pointer (some ⟨g3, 0, none⟩), .int .i64 0, .pointer (some ⟨g4, 0, none⟩), .agg (av 3 (ls [.bool (v0), .int .u64 h0, .int .u64 l0])), .agg (av 3 (ls [.bool (v1), .int .u64 h1, .int .u64 l1])), .int .u16 f, .agg (av 9 (ls [.int .u8 (eP v0), .bool (v0), .int .u64 h0, .int .u64 l0, .bool (v1), .int .u64 h1, .int .u64 l1, .int .u16 f, .int .u16 f])), .agg (av 9 (ls [.int .u8 (eP v0), .bool (v0), .int .u64 h0, .int .u64 l0, .bool (v1), .int .u64 h1, .int .u64 l1, .int .u16 f, .int .u16 f])), .pointer (some ⟨g4, 0, none⟩), .int .u8 (eP v0), .bool (rp), .int .u8 (kO (eP v0) rp), .slice (some ⟨g5, 0, none⟩) 2 2, undef, .int .u16 f, .string (be2 (cv .u64 f)), .string (be2 (cv .u64 0)), .string ((be2 (cv .u64 f)) ++ (be2 (cv .u64 0))), .string d, undef, undef, undef], []⟩ → l = #[true, true, true, true, true, true, false, true, true, true, true, true, false, false, false, false, false] → Mem ⟨w, []⟩ [⟨g1, .cells (av 3 (ls [.bool (v0), .int .u64 h0, .int .u64 l0])) 24⟩, ⟨g2, .cells (av 3 (ls [.bool (v1), .int .u64 h1, .int .u64 l1])) 24⟩, ⟨g3, .cells (av 9 (ls [.bool false, .int .u64 0, .int .u64 0, .bool false, .int .u64 0, .int .u64 0, .int .u8 0, .int .u8 0, .string ⟨#[]⟩])) 26⟩, ⟨g4, .cells (av 9 (ls [.int .u8 (eP v0), .bool (v0), .int .u64 h0, .int .u64 l0, .bool (v1), .int .u64 h1, .int .u64 l1, .int .u16 f, .int .u16 f])) 29⟩, ⟨g5, .cells (av 2 (ls [.int .u8 (kO (eP v0) rp), .int .u8 0])) 5⟩] w0 → H 6 l a w0 := by
    intro a l g5  u0 ha hl M
    subst ha hl
    refine hB _ _ _ _ ?_
    refine hl_one 6 (by decide) (by kernel_rfl) rfl ?_
    refine pl_back M (want_no rfl) (some 23) rfl _ rfl 4 g5 2 2 (by kernel_rfl) _ rfl [(kO (eP v0) rp), 0] 2 (sb_ls [(kO (eP v0) rp), 0] _) rfl (by intro x hx; simp only [List.mem_cons, List.mem_nil_iff, or_false] at hx; have hk := kO_nn (eP v0) rp; rcases hx with rfl | rfl <;> omega) ?_
    refine pl_nil ?_
    refine au_then ?_
    refine ⟨(M.drop (.cons_cons _ (.cons_cons _ (.cons _ (.cons_cons _ (.cons _ (.slnil))))))), ?_⟩
    exact hA _ _ _ _ (s9 _ _ (.slice (some ⟨g5, 0, none⟩) 2 2) _ (by kernel_rfl) (by kernel_rfl) (M.drop (.cons_cons _ (.cons_cons _ (.cons_cons _ (.cons_cons _ (.cons _ (.slnil))))))))
  have s6 : ∀ (a : Act) (l : Array Bool) (w0 : World), a = ⟨#[.agg (av 3 (ls [.bool (v0), .int .u64 h0, .int .u64 l0])), .agg (av 3 (ls [.bool (v1), .int .u64 h1, .int .u64 l1])), .int .u16 f, .bool (rp), .string d, .pointer (some ⟨g1, 0, none⟩), .pointer (some ⟨g2, 0, none⟩), undef, undef, undef, .pointer (some ⟨g3, 0, none⟩), .int .i64 0, .pointer (some ⟨g4, 0, none⟩), .agg (av 3 (ls [.bool (v0), .int .u64 h0, .int .u64 l0])), .agg (av 3 (ls [.bool (v1), .int .u64 h1, .int .u64 l1])), .int .u16 f, .agg (av 9 (ls [.int .u8 (eP v0), .bool (v0), .int .u64 h0, .int .u64 l0, .bool (v1), .int .u64 h1, .int .u64 l1, .int .u16 f, .int .u16 f])), .agg (av 9 (ls [.int .u8 (eP v0), .bool (v0), .int .u64 h0, .int .u64 l0, .bool (v1), .int .u64 h1, .int .u64 l1, .int .u16 f, .int .u16 f])), .pointer (some ⟨g4, 0, none⟩), .int .u8 (eP v0), .bool (rp), .int .u8 (kO (eP v0) rp), undef, undef, .int .u16 f, .string (be2 (cv .u64 f)), .string (be2 (cv .u64 0)), .string ((be2 (cv .u64 f)) ++ (be2 (cv .u64 0))), .string d, undef, undef, undef], []⟩ → l = #[true, true, true, true, true, false, false, true, true, true, true, true, false, false, false, false, false] → Mem ⟨w, []⟩ [⟨g1, .cells (av 3 (ls [.bool (v0), .int .u64 h0, .int .u64 l0])) 24⟩, ⟨g2, .cells (av 3 (ls [.bool (v1), .int .u64 h1, .int .u64 l1])) 24⟩, ⟨g3, .cells (av 9 (ls [.bool false, .int .u64 0, .int .u64 0, .bool false, .int .u64 0, .int .u64 0, .int .u8 0, .int .u8 0, .string ⟨#[]⟩])) 26⟩, ⟨g4, .cells (av 9 (ls [.int .u8 (eP v0), .bool (v0), .int .u64 h0, .int .u64 l0, .bool (v1), .int .u64 h1, .int .u64 l1, .int .u16 f, .int .u16 f])) 29⟩] w0 → H 7 l a w0 := by
    intro a l   u0 ha hl M
    subst ha hl
    refine hB _ _ _ _ ?_
    refine hl_one 5 (by decide) (by kernel_rfl) rfl ?_
    refine pl_mk M (want_no rfl) (some 22) rfl (fun g5 => .slice (some ⟨g5, 0, none⟩) 2 2) (.cells (av 2 (ls [.int .u8 (kO (eP v0) rp), .int .u8 0])) 5) (fun _ => by kernel_rfl) ?_
    intro g5 u11 M
    replace M : Mem ⟨w, []⟩ [⟨g1, .cells (av 3 (ls [.bool (v0), .int .u64 h0, .int .u64 l0])) 24⟩, ⟨g2, .cells (av 3 (ls [.bool (v1), .int .u64 h1, .int .u64 l1])) 24⟩, ⟨g3, .cells (av 9 (ls [.bool false, .int .u64 0, .int .u64 0, .bool false, .int .u64 0, .int .u64 0, .int .u8 0, .int .u8 0, .string ⟨#[]⟩])) 26⟩, ⟨g4, .cells (av 9 (ls [.int .u8 (eP v0), .bool (v0), .int .u64 h0, .int .u64 l0, .bool (v1), .int .u64 h1, .int .u64 l1, .int .u16 f, .int .u16 f])) 29⟩, ⟨g5, .cells (av 2 (ls [.int .u8 (kO (eP v0) rp), .int .u8 0])) 5⟩] u11 := M
    refine pl_nil ?_
    refine au_then ?_
    refine ⟨(M.drop (.cons_cons _ (.cons_cons _ (.cons _ (.cons_cons _ (.cons _ (.slnil))))))), ?_⟩
    exact hA _ _ _ _ (s8 _ _ g5 _ (by kernel_rfl) (by kernel_rfl) M)
  have s7 : ∀ (a : Act) (l : Array Bool) (x_22 : Value) (w0 : World), a = ⟨#[.agg (av 3 (ls [.bool (v0), .int .u64 h0, .int .u64 l0])), .agg (av 3 (ls [.bool (v1), .int .u64 h1, .int .u64 l1])), .int .u16 f, .bool (rp), .string d, .pointer (some ⟨g1, 0, none⟩), .pointer (some ⟨g2, 0, none⟩), undef, undef, undef, .pointer (some ⟨g3, 0, none⟩), .int .i64 0, .pointer (some ⟨g4, 0, none⟩), .agg (av 3 (ls [.bool (v0), .int .u64 h0, .int .u64 l0])), .agg (av 3 (ls [.bool (v1), .int .u64 h1, .int .u64 l1])), .int .u16 f, .agg (av 9 (ls [.int .u8 (eP v0), .bool (v0), .int .u64 h0, .int .u64 l0, .bool (v1), .int .u64 h1, .int .u64 l1, .int .u16 f, .int .u16 f])), .agg (av 9 (ls [.int .u8 (eP v0), .bool (v0), .int .u64 h0, .int .u64 l0, .bool (v1), .int .u64 h1, .int .u64 l1, .int .u16 f, .int .u16 f])), .pointer (some ⟨g4, 0, none⟩), .int .u8 (eP v0), .bool (rp), .int .u8 (kO (eP v0) rp), x_22, .string (bs [(kO (eP v0) rp), 0]), .int .u16 f, .string (be2 (cv .u64 f)), undef, undef, .string d, undef, undef, undef], []⟩ → l = #[true, true, true, true, true, true, true, true, true, false, false, true, false, false, false, false, false] → Mem ⟨w, []⟩ [⟨g1, .cells (av 3 (ls [.bool (v0), .int .u64 h0, .int .u64 l0])) 24⟩, ⟨g2, .cells (av 3 (ls [.bool (v1), .int .u64 h1, .int .u64 l1])) 24⟩, ⟨g3, .cells (av 9 (ls [.bool false, .int .u64 0, .int .u64 0, .bool false, .int .u64 0, .int .u64 0, .int .u8 0, .int .u8 0, .string ⟨#[]⟩])) 26⟩, ⟨g4, .cells (av 9 (ls [.int .u8 (eP v0), .bool (v0), .int .u64 h0, .int .u64 l0, .bool (v1), .int .u64 h1, .int .u64 l1, .int .u16 f, .int .u16 f])) 29⟩] w0 → H 7 l a w0 := by
    intro a l  x_22 u0 ha hl M
    subst ha hl
    refine hB _ _ _ _ ?_
    refine hl_one 9 (by decide) (by kernel_rfl) rfl ?_
    refine pl_call M (want_no rfl) (some 26) rfl 31 #[.int .u16 0] (.string (be2 (cv .u64 0))) (fun _ => by kernel_rfl) (fun w M => c_U16 0 w M.laid) ?_
    intro u11 M
    refine pl_nil ?_
    refine au_then ?_
    refine ⟨(M.drop (.cons_cons _ (.cons_cons _ (.cons _ (.cons_cons _ (.slnil)))))), ?_⟩
    refine hl_val (M.drop (.cons_cons _ (.cons_cons _ (.cons _ (.cons_cons _ (.slnil)))))) 10 rfl (by decide) (by kernel_rfl) (by kernel_rfl) (want_no rfl) (some 27) rfl (.string ((be2 (cv .u64 f)) ++ (be2 (cv .u64 0)))) (fun w _ => (run_cat 9 9 _ _ rfl (be2 (cv .u64 f)) (be2 (cv .u64 0)) (by kernel_rfl) (by kernel_rfl) (by (try simp only [ByteArray.size_append, ByteArray.size_extract, be2_size, be4_size, be8_size, bs_size, sz_mk, List.size_toArray, List.length_cons, List.length_nil]); omega)) w) ?_
    exact hA _ _ _ _ (s9 _ _ (x_22) _ (by kernel_rfl) (by kernel_rfl) M)
  have s4 : ∀ (a : Act) (l : Array Bool) (x_22 : Value) (w0 : World), a = ⟨#[.agg (av 3 (ls [.bool (v0), .int .u64 h0, .int .u64 l0])), .agg (av 3 (ls [.bool (v1), .int .u64 h1, .int .u64 l1])), .int .u16 f, .bool (rp), .string d, .pointer (some ⟨g1, 0, none⟩), .pointer (some ⟨g2, 0, none⟩), undef, undef, undef, .pointer (some ⟨g3, 0, none⟩), .int .i64 0, .pointer (some ⟨g4, 0, none⟩), .agg (av 3 (ls [.bool (v0), .int .u64 h0, .int .u64 l0])), .agg (av 3 (ls [.bool (v1), .int .u64 h1, .int .u64 l1])), .int .u16 f, .agg (av 9 (ls [.int .u8 (eP v0), .bool (v0), .int .u64 h0, .int .u64 l0, .bool (v1), .int .u64 h1, .int .u64 l1, .int .u16 f, .int .u16 f])), .agg (av 9 (ls [.int .u8 (eP v0), .bool (v0), .int .u64 h0, .int .u64 l0, .bool (v1), .int .u64 h1, .int .u64 l1, .int .u16 f, .int .u16 f])), .pointer (some ⟨g4, 0, none⟩), .int .u8 (eP v0), .bool (rp), .int .u8 (kO (eP v0) rp), x_22, .string (bs [(kO (eP v0) rp), 0]), .int .u16 f, undef, undef, undef, .string d, undef, undef, undef], []⟩ → l = #[true, true, true, true, true, true, true, true, false, false, false, true, false, false, false, false, false] → Mem ⟨w, []⟩ [⟨g1, .cells (av 3 (ls [.bool (v0), .int .u64 h0, .int .u64 l0])) 24⟩, ⟨g2, .cells (av 3 (ls [.bool (v1), .int .u64 h1, .int .u64 l1])) 24⟩, ⟨g3, .cells (av 9 (ls [.bool false, .int .u64 0, .int .u64 0, .bool false, .int .u64 0, .int .u64 0, .int .u8 0, .int .u8 0, .string ⟨#[]⟩])) 26⟩, ⟨g4, .cells (av 9 (ls [.int .u8 (eP v0), .bool (v0), .int .u64 h0, .int .u64 l0, .bool (v1), .int .u64 h1, .int .u64 l1, .int .u16 f, .int .u16 f])) 29⟩] w0 → H 8 l a w0 := by
    intro a l  x_22 u0 ha hl M
    subst ha hl
    refine hB _ _ _ _ ?_
    refine hl_one 8 (by decide) (by kernel_rfl) rfl ?_
    refine pl_call M (want_no rfl) (some 25) rfl 31 #[.int .u16 f] (.string (be2 (cv .u64 f))) (fun _ => by kernel_rfl) (fun w M => c_U16 f w M.laid) ?_
    intro u10 M
    refine pl_nil ?_
    refine au_then ?_
    refine ⟨(M.drop (.cons_cons _ (.cons_cons _ (.cons _ (.cons_cons _ (.slnil)))))), ?_⟩
    exact hA _ _ _ _ (s7 _ _ (x_22) _ (by kernel_rfl) (by kernel_rfl) M)
  have s5 : ∀ (a : Act) (l : Array Bool) (g5 : Nat) (w0 : World), a = ⟨#[.agg (av 3 (ls [.bool (v0), .int .u64 h0, .int .u64 l0])), .agg (av 3 (ls [.bool (v1), .int .u64 h1, .int .u64 l1])), .int .u16 f, .bool (rp), .string d, .pointer (some ⟨g1, 0, none⟩), .pointer (some ⟨g2, 0, none⟩), undef, undef, undef, .pointer (some ⟨g3, 0, none⟩), .int .i64 0, .pointer (some ⟨g4, 0, none⟩), .agg (av 3 (ls [.bool (v0), .int .u64 h0, .int .u64 l0])), .agg (av 3 (ls [.bool (v1), .int .u64 h1, .int .u64 l1])), .int .u16 f, .agg (av 9 (ls [.int .u8 (eP v0), .bool (v0), .int .u64 h0, .int .u64 l0, .bool (v1), .int .u64 h1, .int .u64 l1, .int .u16 f, .int .u16 f])), .agg (av 9 (ls [.int .u8 (eP v0), .bool (v0), .int .u64 h0, .int .u64 l0, .bool (v1), .int .u64 h1, .int .u64 l1, .int .u16 f, .int .u16 f])), .pointer (some ⟨g4, 0, none⟩), .int .u8 (eP v0), .bool (rp), .int .u8 (kO (eP v0) rp), .slice (some ⟨g5, 0, none⟩) 2 2, undef, .int .u16 f, .string (be2 (cv .u64 f)), undef, undef, .string d, undef, undef, undef], []⟩ → l = #[true, true, true, true, true, true, false, true, true, false, false, true, false, false, false, false, false] → Mem ⟨w, []⟩ [⟨g1, .cells (av 3 (ls [.bool (v0), .int .u64 h0, .int .u64 l0])) 24⟩, ⟨g2, .cells (av 3 (ls [.bool (v1), .int .u64 h1, .int .u64 l1])) 24⟩, ⟨g3, .cells (av 9 (ls [.bool false, .int .u64 0, .int .u64 0, .bool false, .int .u64 0, .int .u64 0, .int .u8 0, .int .u8 0, .string ⟨#[]⟩])) 26⟩, ⟨g4, .cells (av 9 (ls [.int .u8 (eP v0), .bool (v0), .int .u64 h0, .int .u64 l0, .bool (v1), .int .u64 h1, .int .u64 l1, .int .u16 f, .int .u16 f])) 29⟩, ⟨g5, .cells (av 2 (ls [.int .u8 (kO (eP v0) rp), .int .u8 0])) 5⟩] w0 → H 8 l a w0 := by
    intro a l g5  u0 ha hl M
    subst ha hl
    refine hB _ _ _ _ ?_
    refine hl_two 6 9 (by decide) (by decide) (by kernel_rfl) rfl rfl ?_ ?_
    · skip
      refine pl_back M (want_no rfl) (some 23) rfl _ rfl 4 g5 2 2 (by kernel_rfl) _ rfl [(kO (eP v0) rp), 0] 2 (sb_ls [(kO (eP v0) rp), 0] _) rfl (by intro x hx; simp only [List.mem_cons, List.mem_nil_iff, or_false] at hx; have hk := kO_nn (eP v0) rp; rcases hx with rfl | rfl <;> omega) ?_
      refine pl_nil ?_
      refine au_then ?_
      refine ⟨(M.drop (.cons_cons _ (.cons_cons _ (.cons _ (.cons_cons _ (.cons _ (.slnil))))))), ?_⟩
      exact hA _ _ _ _ (s7 _ _ (.slice (some ⟨g5, 0, none⟩) 2 2) _ (by kernel_rfl) (by kernel_rfl) (M.drop (.cons_cons _ (.cons_cons _ (.cons_cons _ (.cons_cons _ (.cons _ (.slnil))))))))
    · skip
      refine pl_call M (want_no rfl) (some 26) rfl 31 #[.int .u16 0] (.string (be2 (cv .u64 0))) (fun _ => by kernel_rfl) (fun w M => c_U16 0 w M.laid) ?_
      intro u11 M
      refine pl_nil ?_
      refine au_then ?_
      refine ⟨(M.drop (.cons_cons _ (.cons_cons _ (.cons _ (.cons_cons _ (.cons _ (.slnil))))))), ?_⟩
      refine hl_val (M.drop (.cons_cons _ (.cons_cons _ (.cons _ (.cons_cons _ (.cons _ (.slnil))))))) 10 rfl (by decide) (by kernel_rfl) (by kernel_rfl) (want_no rfl) (some 27) rfl (.string ((be2 (cv .u64 f)) ++ (be2 (cv .u64 0)))) (fun w _ => (run_cat 9 9 _ _ rfl (be2 (cv .u64 f)) (be2 (cv .u64 0)) (by kernel_rfl) (by kernel_rfl) (by (try simp only [ByteArray.size_append, ByteArray.size_extract, be2_size, be4_size, be8_size, bs_size, sz_mk, List.size_toArray, List.length_cons, List.length_nil]); omega)) w) ?_
      exact hA _ _ _ _ (s8 _ _ g5 _ (by kernel_rfl) (by kernel_rfl) M)
  have s2 : ∀ (a : Act) (l : Array Bool) (g5 : Nat) (w0 : World), a = ⟨#[.agg (av 3 (ls [.bool (v0), .int .u64 h0, .int .u64 l0])), .agg (av 3 (ls [.bool (v1), .int .u64 h1, .int .u64 l1])), .int .u16 f, .bool (rp), .string d, .pointer (some ⟨g1, 0, none⟩), .pointer (some ⟨g2, 0, none⟩), undef, undef, undef, .pointer (some ⟨g3, 0, none⟩), .int .i64 0, .pointer (some ⟨g4, 0, none⟩), .agg (av 3 (ls [.bool (v0), .int .u64 h0, .int .u64 l0])), .agg (av 3 (ls [.bool (v1), .int .u64 h1, .int .u64 l1])), .int .u16 f, .agg (av 9 (ls [.int .u8 (eP v0), .bool (v0), .int .u64 h0, .int .u64 l0, .bool (v1), .int .u64 h1, .int .u64 l1, .int .u16 f, .int .u16 f])), .agg (av 9 (ls [.int .u8 (eP v0), .bool (v0), .int .u64 h0, .int .u64 l0, .bool (v1), .int .u64 h1, .int .u64 l1, .int .u16 f, .int .u16 f])), .pointer (some ⟨g4, 0, none⟩), .int .u8 (eP v0), .bool (rp), .int .u8 (kO (eP v0) rp), .slice (some ⟨g5, 0, none⟩) 2 2, undef, .int .u16 f, undef, undef, undef, .string d, undef, undef, undef], []⟩ → l = #[true, true, true, true, true, true, false, true, false, false, false, true, false, false, false, false, false] → Mem ⟨w, []⟩ [⟨g1, .cells (av 3 (ls [.bool (v0), .int .u64 h0, .int .u64 l0])) 24⟩, ⟨g2, .cells (av 3 (ls [.bool (v1), .int .u64 h1, .int .u64 l1])) 24⟩, ⟨g3, .cells (av 9 (ls [.bool false, .int .u64 0, .int .u64 0, .bool false, .int .u64 0, .int .u64 0, .int .u8 0, .int .u8 0, .string ⟨#[]⟩])) 26⟩, ⟨g4, .cells (av 9 (ls [.int .u8 (eP v0), .bool (v0), .int .u64 h0, .int .u64 l0, .bool (v1), .int .u64 h1, .int .u64 l1, .int .u16 f, .int .u16 f])) 29⟩, ⟨g5, .cells (av 2 (ls [.int .u8 (kO (eP v0) rp), .int .u8 0])) 5⟩] w0 → H 9 l a w0 := by
    intro a l g5  u0 ha hl M
    subst ha hl
    refine hB _ _ _ _ ?_
    refine hl_two 6 8 (by decide) (by decide) (by kernel_rfl) rfl rfl ?_ ?_
    · skip
      refine pl_back M (want_no rfl) (some 23) rfl _ rfl 4 g5 2 2 (by kernel_rfl) _ rfl [(kO (eP v0) rp), 0] 2 (sb_ls [(kO (eP v0) rp), 0] _) rfl (by intro x hx; simp only [List.mem_cons, List.mem_nil_iff, or_false] at hx; have hk := kO_nn (eP v0) rp; rcases hx with rfl | rfl <;> omega) ?_
      refine pl_nil ?_
      refine au_then ?_
      refine ⟨(M.drop (.cons_cons _ (.cons_cons _ (.cons _ (.cons_cons _ (.cons _ (.slnil))))))), ?_⟩
      exact hA _ _ _ _ (s4 _ _ (.slice (some ⟨g5, 0, none⟩) 2 2) _ (by kernel_rfl) (by kernel_rfl) (M.drop (.cons_cons _ (.cons_cons _ (.cons_cons _ (.cons_cons _ (.cons _ (.slnil))))))))
    · skip
      refine pl_call M (want_no rfl) (some 25) rfl 31 #[.int .u16 f] (.string (be2 (cv .u64 f))) (fun _ => by kernel_rfl) (fun w M => c_U16 f w M.laid) ?_
      intro u10 M
      refine pl_nil ?_
      refine au_then ?_
      refine ⟨(M.drop (.cons_cons _ (.cons_cons _ (.cons _ (.cons_cons _ (.cons _ (.slnil))))))), ?_⟩
      exact hA _ _ _ _ (s5 _ _ g5 _ (by kernel_rfl) (by kernel_rfl) M)
  have s3 : ∀ (a : Act) (l : Array Bool) (w0 : World), a = ⟨#[.agg (av 3 (ls [.bool (v0), .int .u64 h0, .int .u64 l0])), .agg (av 3 (ls [.bool (v1), .int .u64 h1, .int .u64 l1])), .int .u16 f, .bool (rp), .string d, .pointer (some ⟨g1, 0, none⟩), .pointer (some ⟨g2, 0, none⟩), undef, undef, undef, .pointer (some ⟨g3, 0, none⟩), .int .i64 0, .pointer (some ⟨g4, 0, none⟩), .agg (av 3 (ls [.bool (v0), .int .u64 h0, .int .u64 l0])), .agg (av 3 (ls [.bool (v1), .int .u64 h1, .int .u64 l1])), .int .u16 f, .agg (av 9 (ls [.int .u8 (eP v0), .bool (v0), .int .u64 h0, .int .u64 l0, .bool (v1), .int .u64 h1, .int .u64 l1, .int .u16 f, .int .u16 f])), .agg (av 9 (ls [.int .u8 (eP v0), .bool (v0), .int .u64 h0, .int .u64 l0, .bool (v1), .int .u64 h1, .int .u64 l1, .int .u16 f, .int .u16 f])), .pointer (some ⟨g4, 0, none⟩), .int .u8 (eP v0), .bool (rp), .int .u8 (kO (eP v0) rp), undef, undef, .int .u16 f, .string (be2 (cv .u64 f)), undef, undef, .string d, undef, undef, undef], []⟩ → l = #[true, true, true, true, true, false, false, true, true, false, false, true, false, false, false, false, false] → Mem ⟨w, []⟩ [⟨g1, .cells (av 3 (ls [.bool (v0), .int .u64 h0, .int .u64 l0])) 24⟩, ⟨g2, .cells (av 3 (ls [.bool (v1), .int .u64 h1, .int .u64 l1])) 24⟩, ⟨g3, .cells (av 9 (ls [.bool false, .int .u64 0, .int .u64 0, .bool false, .int .u64 0, .int .u64 0, .int .u8 0, .int .u8 0, .string ⟨#[]⟩])) 26⟩, ⟨g4, .cells (av 9 (ls [.int .u8 (eP v0), .bool (v0), .int .u64 h0, .int .u64 l0, .bool (v1), .int .u64 h1, .int .u64 l1, .int .u16 f, .int .u16 f])) 29⟩] w0 → H 9 l a w0 := by
    intro a l   u0 ha hl M
    subst ha hl
    refine hB _ _ _ _ ?_
    refine hl_two 5 9 (by decide) (by decide) (by kernel_rfl) rfl rfl ?_ ?_
    · skip
      refine pl_mk M (want_no rfl) (some 22) rfl (fun g5 => .slice (some ⟨g5, 0, none⟩) 2 2) (.cells (av 2 (ls [.int .u8 (kO (eP v0) rp), .int .u8 0])) 5) (fun _ => by kernel_rfl) ?_
      intro g5 u10 M
      replace M : Mem ⟨w, []⟩ [⟨g1, .cells (av 3 (ls [.bool (v0), .int .u64 h0, .int .u64 l0])) 24⟩, ⟨g2, .cells (av 3 (ls [.bool (v1), .int .u64 h1, .int .u64 l1])) 24⟩, ⟨g3, .cells (av 9 (ls [.bool false, .int .u64 0, .int .u64 0, .bool false, .int .u64 0, .int .u64 0, .int .u8 0, .int .u8 0, .string ⟨#[]⟩])) 26⟩, ⟨g4, .cells (av 9 (ls [.int .u8 (eP v0), .bool (v0), .int .u64 h0, .int .u64 l0, .bool (v1), .int .u64 h1, .int .u64 l1, .int .u16 f, .int .u16 f])) 29⟩, ⟨g5, .cells (av 2 (ls [.int .u8 (kO (eP v0) rp), .int .u8 0])) 5⟩] u10 := M
      refine pl_nil ?_
      refine au_then ?_
      refine ⟨(M.drop (.cons_cons _ (.cons_cons _ (.cons _ (.cons_cons _ (.cons _ (.slnil))))))), ?_⟩
      exact hA _ _ _ _ (s5 _ _ g5 _ (by kernel_rfl) (by kernel_rfl) M)
    · skip
      refine pl_call M (want_no rfl) (some 26) rfl 31 #[.int .u16 0] (.string (be2 (cv .u64 0))) (fun _ => by kernel_rfl) (fun w M => c_U16 0 w M.laid) ?_
      intro u10 M
      refine pl_nil ?_
      refine au_then ?_
      refine ⟨(M.drop (.cons_cons _ (.cons_cons _ (.cons _ (.cons_cons _ (.slnil)))))), ?_⟩
      refine hl_val (M.drop (.cons_cons _ (.cons_cons _ (.cons _ (.cons_cons _ (.slnil)))))) 10 rfl (by decide) (by kernel_rfl) (by kernel_rfl) (want_no rfl) (some 27) rfl (.string ((be2 (cv .u64 f)) ++ (be2 (cv .u64 0)))) (fun w _ => (run_cat 9 9 _ _ rfl (be2 (cv .u64 f)) (be2 (cv .u64 0)) (by kernel_rfl) (by kernel_rfl) (by (try simp only [ByteArray.size_append, ByteArray.size_extract, be2_size, be4_size, be8_size, bs_size, sz_mk, List.size_toArray, List.length_cons, List.length_nil]); omega)) w) ?_
      exact hA _ _ _ _ (s6 _ _  _ (by kernel_rfl) (by kernel_rfl) M)
  have s1 : ∀ (a : Act) (l : Array Bool) (w0 : World), a = ⟨#[.agg (av 3 (ls [.bool (v0), .int .u64 h0, .int .u64 l0])), .agg (av 3 (ls [.bool (v1), .int .u64 h1, .int .u64 l1])), .int .u16 f, .bool (rp), .string d, .pointer (some ⟨g1, 0, none⟩), .pointer (some ⟨g2, 0, none⟩), undef, undef, undef, .pointer (some ⟨g3, 0, none⟩), .int .i64 0, .pointer (some ⟨g4, 0, none⟩), .agg (av 3 (ls [.bool (v0), .int .u64 h0, .int .u64 l0])), .agg (av 3 (ls [.bool (v1), .int .u64 h1, .int .u64 l1])), .int .u16 f, .agg (av 9 (ls [.int .u8 (eP v0), .bool (v0), .int .u64 h0, .int .u64 l0, .bool (v1), .int .u64 h1, .int .u64 l1, .int .u16 f, .int .u16 f])), .agg (av 9 (ls [.int .u8 (eP v0), .bool (v0), .int .u64 h0, .int .u64 l0, .bool (v1), .int .u64 h1, .int .u64 l1, .int .u16 f, .int .u16 f])), .pointer (some ⟨g4, 0, none⟩), .int .u8 (eP v0), .bool (rp), .int .u8 (kO (eP v0) rp), undef, undef, .int .u16 f, undef, undef, undef, .string d, undef, undef, undef], []⟩ → l = #[true, true, true, true, true, false, false, true, false, false, false, true, false, false, false, false, false] → Mem ⟨w, []⟩ [⟨g1, .cells (av 3 (ls [.bool (v0), .int .u64 h0, .int .u64 l0])) 24⟩, ⟨g2, .cells (av 3 (ls [.bool (v1), .int .u64 h1, .int .u64 l1])) 24⟩, ⟨g3, .cells (av 9 (ls [.bool false, .int .u64 0, .int .u64 0, .bool false, .int .u64 0, .int .u64 0, .int .u8 0, .int .u8 0, .string ⟨#[]⟩])) 26⟩, ⟨g4, .cells (av 9 (ls [.int .u8 (eP v0), .bool (v0), .int .u64 h0, .int .u64 l0, .bool (v1), .int .u64 h1, .int .u64 l1, .int .u16 f, .int .u16 f])) 29⟩] w0 → H 10 l a w0 := by
    intro a l   u0 ha hl M
    subst ha hl
    refine hB _ _ _ _ ?_
    refine hl_two 5 8 (by decide) (by decide) (by kernel_rfl) rfl rfl ?_ ?_
    · skip
      refine pl_mk M (want_no rfl) (some 22) rfl (fun g5 => .slice (some ⟨g5, 0, none⟩) 2 2) (.cells (av 2 (ls [.int .u8 (kO (eP v0) rp), .int .u8 0])) 5) (fun _ => by kernel_rfl) ?_
      intro g5 u9 M
      replace M : Mem ⟨w, []⟩ [⟨g1, .cells (av 3 (ls [.bool (v0), .int .u64 h0, .int .u64 l0])) 24⟩, ⟨g2, .cells (av 3 (ls [.bool (v1), .int .u64 h1, .int .u64 l1])) 24⟩, ⟨g3, .cells (av 9 (ls [.bool false, .int .u64 0, .int .u64 0, .bool false, .int .u64 0, .int .u64 0, .int .u8 0, .int .u8 0, .string ⟨#[]⟩])) 26⟩, ⟨g4, .cells (av 9 (ls [.int .u8 (eP v0), .bool (v0), .int .u64 h0, .int .u64 l0, .bool (v1), .int .u64 h1, .int .u64 l1, .int .u16 f, .int .u16 f])) 29⟩, ⟨g5, .cells (av 2 (ls [.int .u8 (kO (eP v0) rp), .int .u8 0])) 5⟩] u9 := M
      refine pl_nil ?_
      refine au_then ?_
      refine ⟨(M.drop (.cons_cons _ (.cons_cons _ (.cons _ (.cons_cons _ (.cons _ (.slnil))))))), ?_⟩
      exact hA _ _ _ _ (s2 _ _ g5 _ (by kernel_rfl) (by kernel_rfl) M)
    · skip
      refine pl_call M (want_no rfl) (some 25) rfl 31 #[.int .u16 f] (.string (be2 (cv .u64 f))) (fun _ => by kernel_rfl) (fun w M => c_U16 f w M.laid) ?_
      intro u9 M
      refine pl_nil ?_
      refine au_then ?_
      refine ⟨(M.drop (.cons_cons _ (.cons_cons _ (.cons _ (.cons_cons _ (.slnil)))))), ?_⟩
      exact hA _ _ _ _ (s3 _ _  _ (by kernel_rfl) (by kernel_rfl) M)
  have s0 : ∀ (a : Act) (l : Array Bool) (w0 : World), a = ⟨#[.agg (av 3 (ls [.bool (v0), .int .u64 h0, .int .u64 l0])), .agg (av 3 (ls [.bool (v1), .int .u64 h1, .int .u64 l1])), .int .u16 f, .bool (rp), .string d, .pointer (some ⟨g1, 0, none⟩), .pointer (some ⟨g2, 0, none⟩), undef, undef, undef, .pointer (some ⟨g3, 0, none⟩), .int .i64 0, .pointer (some ⟨g4, 0, none⟩), .agg (av 3 (ls [.bool (v0), .int .u64 h0, .int .u64 l0])), .agg (av 3 (ls [.bool (v1), .int .u64 h1, .int .u64 l1])), .int .u16 f, .agg (av 9 (ls [.int .u8 (eP v0), .bool (v0), .int .u64 h0, .int .u64 l0, .bool (v1), .int .u64 h1, .int .u64 l1, .int .u16 f, .int .u16 f])), .agg (av 9 (ls [.int .u8 (eP v0), .bool (v0), .int .u64 h0, .int .u64 l0, .bool (v1), .int .u64 h1, .int .u64 l1, .int .u16 f, .int .u16 f])), .pointer (some ⟨g4, 0, none⟩), .int .u8 (eP v0), .bool (rp), undef, undef, undef, .int .u16 f, undef, undef, undef, .string d, undef, undef, undef], []⟩ → l = #[true, true, true, true, false, false, false, true, false, false, false, true, false, false, false, false, false] → Mem ⟨w, []⟩ [⟨g1, .cells (av 3 (ls [.bool (v0), .int .u64 h0, .int .u64 l0])) 24⟩, ⟨g2, .cells (av 3 (ls [.bool (v1), .int .u64 h1, .int .u64 l1])) 24⟩, ⟨g3, .cells (av 9 (ls [.bool false, .int .u64 0, .int .u64 0, .bool false, .int .u64 0, .int .u64 0, .int .u8 0, .int .u8 0, .string ⟨#[]⟩])) 26⟩, ⟨g4, .cells (av 9 (ls [.int .u8 (eP v0), .bool (v0), .int .u64 h0, .int .u64 l0, .bool (v1), .int .u64 h1, .int .u64 l1, .int .u16 f, .int .u16 f])) 29⟩] w0 → H 11 l a w0 := by
    intro a l   u0 ha hl M
    subst ha hl
    refine hB _ _ _ _ ?_
    refine hl_one 4 (by decide) (by kernel_rfl) rfl ?_
    refine pl_call M (want_no rfl) (some 21) rfl 36 #[.int .u8 (eP v0), .bool (rp)] (.int .u8 (kO (eP v0) rp)) (fun _ => by kernel_rfl) (fun w M => c_kindOf (eP v0) rp w M.laid) ?_
    intro u8 M
    refine pl_nil ?_
    refine au_then ?_
    refine ⟨(M.drop (.cons_cons _ (.cons_cons _ (.cons _ (.cons_cons _ (.slnil)))))), ?_⟩
    exact hA _ _ _ _ (s1 _ _  _ (by kernel_rfl) (by kernel_rfl) M)
  exact s0 _ _  _ (by kernel_rfl) (by kernel_rfl) M


end Go.Proofs.Ytahknenmjnhmjaa
