/- Part 3 of the walks and facts behind msgReads_holds. -/
import Derived.Test.YtbechjlkmajcoaaRe2
namespace Go.Proofs.Ytbechjlkmajcoaa
open Go.RowKit
def enB (v : Bool) (h l p : Int) : ByteArray := if v = true then (((bs [6] ++ be8 h) ++ be8 l) ++ be2 (cv .u64 p)) else ((bs [4] ++ be4 (cv .u64 (cv .u32 l))) ++ be2 (cv .u64 p))
def byF (o : Int) (v : Vl) : ByteArray := if o = 4 then be4 (cv .u64 (cv .u32 v.n)) else if o = 8 then be4 (cv .u64 (cv .u32 v.n)) else if o = 16 then be8 v.n else if o = 32 then be8 v.n else if o = 64 then be8 v.n else if o = 512 then be2 (cv .u64 (cv .u16 v.n)) else if o = 256 then enB v.v v.h v.l v.p else if o = 1024 then wtS v.t else if o = 2048 then wtS v.t else v.t
def wrF (x : ByteArray) (h o : Int) (v : Vl) : ByteArray := if yn h o = 0 then x else x ++ byF o v
def wrS (m : Mg) (h : Int) : Nat → ByteArray
 | 0 => bs [m.ty]
 | k + 1 => wrF (wrS m h k) h (bitV k) (inV m k)
def eO (m : Mg) : ByteArray := if mE m = 0 then wrS m (shP m.ty) 13 else ⟨#[]⟩
theorem enB_size (v : Bool) (h l p : Int) : (enB v h l p).size = if v = true then 19 else 7 := by
 unfold enB
 cases v
 ·rw [if_neg (by decide), if_neg (by decide), ByteArray.size_append, ByteArray.size_append, be4_size, be2_size]
  rfl
 ·rw [if_pos rfl, if_pos rfl, ByteArray.size_append, ByteArray.size_append, ByteArray.size_append, be8_size, be8_size, be2_size]
  rfl
theorem wtS_le (s : ByteArray) : (wtS s).size ≤ s.size + 2 := by
 unfold wtS
 split
 ·exact Nat.zero_le _
 ·rw [ByteArray.size_append, be2_size]
  omega
theorem byF_le (o : Int) (v : Vl) : (byF o v).size ≤ v.t.size + 19 := by
 have h1 := enB_size v.v v.h v.l v.p
 have h2 := wtS_le v.t
 have h3 : (if v.v = true then 19 else 7) ≤ 19 := by split <;> decide
 unfold byF
 repeat' split
 all_goals (try rw [be4_size]); (try rw [be8_size]); (try rw [be2_size]); omega
theorem wrF_le (x : ByteArray) (h o : Int) (v : Vl) : (wrF x h o v).size ≤ x.size + v.t.size + 19 := by
 have := byF_le o v
 unfold wrF
 split
 ·omega
 ·rw [ByteArray.size_append]
  omega
def smM (m : Mg) : Prop := m.fr.size ≤ 70000 ∧ m.tq.size ≤ 70000 ∧ m.tx.size ≤ 70000 ∧ m.tt.size ≤ 70000 ∧ m.da.size ≤ 70000 ∧ m.sg.size ≤ 70000
theorem inV_le {m : Mg} (hm : smM m) (k : Nat) : (inV m k).t.size ≤ 70000 := by
 obtain ⟨h1, h2, h3, h4, h5, h6⟩ := hm
 unfold inV
 split <;> first | assumption | exact Nat.zero_le _
theorem wrS_le {m : Mg} (hm : smM m) (h : Int) : ∀ k, (wrS m h k).size ≤ 1 + k * 70019
 | 0 => by
  show (bs [m.ty]).size ≤ _
  rw [bs_size]
  exact Nat.le_add_right 1 _
 | k + 1 => by
  have h1 := wrS_le hm h k
  have h2 := inV_le hm k
  have h3 := wrF_le (wrS m h k) h (bitV k) (inV m k)
  show (wrF (wrS m h k) h (bitV k) (inV m k)).size ≤ _
  omega
theorem wrF_ge (x : ByteArray) (h o : Int) (v : Vl) : x.size ≤ (wrF x h o v).size := by
 unfold wrF
 split
 ·exact Nat.le_refl _
 ·rw [ByteArray.size_append]
  omega
theorem wrS_ge (m : Mg) (h : Int) : ∀ k, 1 ≤ (wrS m h k).size
 | 0 => by
  show 1 ≤ (bs [m.ty]).size
  rw [bs_size]
  exact Nat.le_refl 1
 | k + 1 => Nat.le_trans (wrS_ge m h k) (wrF_ge _ _ _ _)
set_option maxRecDepth 100000 in
set_option maxHeartbeats 4000000 in
set_option linter.unusedSimpArgs false in
theorem c_endBytes (ev : Bool) (eh el ep : Int) (w : World) (hL : Laid w)  :
  Calls Try.prog 64 #[.agg (av 4 (ls [.bool (ev), .int .u64 eh, .int .u64 el, .int .u16 ep]))] w fun r w' => r = .returned (.string (enB ev eh el ep)) ∧ Below w.heap.size w w' := by
 go_enter Try.func64, Try.ntmps64
 have M := Mem.start hL
 refine sR ?_
 refine pN M 1 (.cells (av 4 (ls [.bool (ev), .int .u64 eh, .int .u64 el, .int .u16 ep])) 28) fun g1 u1 M => ?_
 replace M : Mem ⟨w, []⟩ [⟨g1, .cells (av 4 (ls [.bool (ev), .int .u64 eh, .int .u64 el, .int .u16 ep])) 28⟩] u1 := M
 refine pV 2 (.string ⟨#[]⟩) ?_
 refine nT ?_
 refine wp_seq ?_
 refine sR ?_
 refine pV 3 (.pointer (some ⟨g1, 0, none⟩)) ?_
 refine pV 4 (.pointer (some ⟨g1, 0, none⟩)) ?_
 rcases Bool.eq_false_or_eq_true (ev) with c0 | c0
 ·skip
  refine pEz M 5 g1 0 (.bool true) (fun w M => M.cell 0 rfl (by decide) (congrArg Value.bool c0)) ?_
  refine nT ?_
  refine wp_cond_true (by kernel_rfl) ?_
  refine wp_seq ?_
  refine rg_held M [⟨g1, .cells (av 4 (ls [.bool (ev), .int .u64 eh, .int .u64 el, .int .u16 ep])) 28⟩] 16 rfl (by kernel_rfl) (by kernel_rfl) (fun _ _ d _ _ h => by cases d <;> exact h) fun u2 M => ?_
  replace M : Mem ⟨w, []⟩ [⟨g1, .cells (av 4 (ls [.bool (ev), .int .u64 eh, .int .u64 el, .int .u16 ep])) 28⟩] u2 := M
  refine qV M 2 8 (.pointer (some ⟨g1, 0, none⟩)) ?_
  refine qV M 3 9 (.pointer (some ⟨g1, 1, none⟩)) ?_
  refine hl_cell M 4 rfl (by decide) (by kernel_rfl) (by kernel_rfl) (want_no rfl) (some 10) rfl 23 _ rfl g1 1 (by kernel_rfl) (.int .u64 eh) (fun _ => by kernel_rfl) (fun w M => M.cell 0 rfl (by decide) rfl) ?_
  refine qV M 7 13 (.pointer (some ⟨g1, 0, none⟩)) ?_
  refine qV M 8 14 (.pointer (some ⟨g1, 2, none⟩)) ?_
  refine hl_cell M 9 rfl (by decide) (by kernel_rfl) (by kernel_rfl) (want_no rfl) (some 15) rfl 23 _ rfl g1 2 (by kernel_rfl) (.int .u64 el) (fun _ => by kernel_rfl) (fun w M => M.cell 0 rfl (by decide) rfl) ?_
  refine qV M 12 18 (.pointer (some ⟨g1, 3, none⟩)) ?_
  refine hl_cell M 13 rfl (by decide) (by kernel_rfl) (by kernel_rfl) (want_no rfl) (some 19) rfl 26 _ rfl g1 3 (by kernel_rfl) (.int .u16 ep) (fun _ => by kernel_rfl) (fun w M => M.cell 0 rfl (by decide) rfl) ?_
  refine hl_name ?_
  intro H hA hB
  have s11 : ∀ (a : Act) (l : Array Bool) (x_6 : Value) (w0 : World), a = ⟨#[.agg (av 4 (ls [.bool (ev), .int .u64 eh, .int .u64 el, .int .u16 ep])), .pointer (some ⟨g1, 0, none⟩), .string ⟨#[]⟩, .pointer (some ⟨g1, 0, none⟩), .pointer (some ⟨g1, 0, none⟩), .bool true, x_6, .string (bs [6]), .pointer (some ⟨g1, 0, none⟩), .pointer (some ⟨g1, 1, none⟩), .int .u64 eh, .string (be8 eh), .string ((bs [6]) ++ (be8 eh)), .pointer (some ⟨g1, 0, none⟩), .pointer (some ⟨g1, 2, none⟩), .int .u64 el, .string (be8 el), .string (((bs [6]) ++ (be8 eh)) ++ (be8 el)), .pointer (some ⟨g1, 3, none⟩), .int .u16 ep, .string (be2 (cv .u64 ep)), .string ((((bs [6]) ++ (be8 eh)) ++ (be8 el)) ++ (be2 (cv .u64 ep))), undef, undef, undef, undef, undef, undef, undef, undef, undef, undef, undef, undef], []⟩ → l = #[true, true, true, true, true, true, true, true, true, true, true, true, true, true, true, true, false] → Mem ⟨w, []⟩ [⟨g1, .cells (av 4 (ls [.bool (ev), .int .u64 eh, .int .u64 el, .int .u16 ep])) 28⟩] w0 → H 1 l a w0 := by
   intro a l  x_6 u0 ha hl M
   subst ha hl
   refine hB _ _ _ _ ?_
   refine hl_end (by kernel_rfl) (by kernel_rfl) rfl ?_
   refine pV 2 (.string ((((bs [6]) ++ (be8 eh)) ++ (be8 el)) ++ (be2 (cv .u64 ep)))) ?_
   refine nT ?_
   refine au_then ?_
   refine wp_ret ?_
   refine au_then_ret ?_
   have e0 : (enB ev eh el ep) = ((((bs [6]) ++ (be8 eh)) ++ (be8 el)) ++ (be2 (cv .u64 ep))) := by simp only [enB, if_pos c0]
   exact bodyPost_ret (v := .string ((((bs [6]) ++ (be8 eh)) ++ (be8 el)) ++ (be2 (cv .u64 ep)))) (results_tmp1 Try.results64 _ _ _ (by kernel_rfl)) (by kernel_rfl) ⟨by rw [e0], below_grown M.old⟩
  have s9 : ∀ (a : Act) (l : Array Bool) (x_6 : Value) (w0 : World), a = ⟨#[.agg (av 4 (ls [.bool (ev), .int .u64 eh, .int .u64 el, .int .u16 ep])), .pointer (some ⟨g1, 0, none⟩), .string ⟨#[]⟩, .pointer (some ⟨g1, 0, none⟩), .pointer (some ⟨g1, 0, none⟩), .bool true, x_6, .string (bs [6]), .pointer (some ⟨g1, 0, none⟩), .pointer (some ⟨g1, 1, none⟩), .int .u64 eh, .string (be8 eh), .string ((bs [6]) ++ (be8 eh)), .pointer (some ⟨g1, 0, none⟩), .pointer (some ⟨g1, 2, none⟩), .int .u64 el, .string (be8 el), .string (((bs [6]) ++ (be8 eh)) ++ (be8 el)), .pointer (some ⟨g1, 3, none⟩), .int .u16 ep, undef, undef, undef, undef, undef, undef, undef, undef, undef, undef, undef, undef, undef, undef], []⟩ → l = #[true, true, true, true, true, true, true, true, true, true, true, true, true, true, false, false, false] → Mem ⟨w, []⟩ [⟨g1, .cells (av 4 (ls [.bool (ev), .int .u64 eh, .int .u64 el, .int .u16 ep])) 28⟩] w0 → H 3 l a w0 := by
   intro a l  x_6 u0 ha hl M
   subst ha hl
   refine hB _ _ _ _ ?_
   refine hl_one 14 (by decide) (by kernel_rfl) rfl ?_
   refine pC M 20 63 #[.int .u16 ep] (.string (be2 (cv .u64 ep))) (fun w M => c_U16 ep w M.laid) fun u6 M => ?_
   refine nT ?_
   refine ⟨M, ?_⟩
   refine hl_val M 15 rfl (by decide) (by kernel_rfl) (by kernel_rfl) (want_no rfl) (some 21) rfl (.string ((((bs [6]) ++ (be8 eh)) ++ (be8 el)) ++ (be2 (cv .u64 ep)))) (fun w _ => (run_cat 9 9 _ _ rfl (((bs [6]) ++ (be8 eh)) ++ (be8 el)) (be2 (cv .u64 ep)) (by kernel_rfl) (by kernel_rfl) (by (try simp only [ByteArray.size_append, ByteArray.size_extract, be2_size, be4_size, be8_size, bs_size, sz_mk, List.size_toArray, List.length_cons, List.length_nil]); omega)) w) ?_
   exact hA _ _ _ _ (s11 _ _ (x_6) _ (by kernel_rfl) (by kernel_rfl) M)
  have s6 : ∀ (a : Act) (l : Array Bool) (x_6 : Value) (w0 : World), a = ⟨#[.agg (av 4 (ls [.bool (ev), .int .u64 eh, .int .u64 el, .int .u16 ep])), .pointer (some ⟨g1, 0, none⟩), .string ⟨#[]⟩, .pointer (some ⟨g1, 0, none⟩), .pointer (some ⟨g1, 0, none⟩), .bool true, x_6, .string (bs [6]), .pointer (some ⟨g1, 0, none⟩), .pointer (some ⟨g1, 1, none⟩), .int .u64 eh, .string (be8 eh), .string ((bs [6]) ++ (be8 eh)), .pointer (some ⟨g1, 0, none⟩), .pointer (some ⟨g1, 2, none⟩), .int .u64 el, undef, undef, .pointer (some ⟨g1, 3, none⟩), .int .u16 ep, undef, undef, undef, undef, undef, undef, undef, undef, undef, undef, undef, undef, undef, undef], []⟩ → l = #[true, true, true, true, true, true, true, true, true, true, false, false, true, true, false, false, false] → Mem ⟨w, []⟩ [⟨g1, .cells (av 4 (ls [.bool (ev), .int .u64 eh, .int .u64 el, .int .u16 ep])) 28⟩] w0 → H 5 l a w0 := by
   intro a l  x_6 u0 ha hl M
   subst ha hl
   refine hB _ _ _ _ ?_
   refine hl_one 10 (by decide) (by kernel_rfl) rfl ?_
   refine pC M 16 62 #[.int .u64 el] (.string (be8 el)) (fun w M => c_U64 el w M.laid) fun u5 M => ?_
   refine nT ?_
   refine ⟨M, ?_⟩
   refine hl_val M 11 rfl (by decide) (by kernel_rfl) (by kernel_rfl) (want_no rfl) (some 17) rfl (.string (((bs [6]) ++ (be8 eh)) ++ (be8 el))) (fun w _ => (run_cat 9 9 _ _ rfl ((bs [6]) ++ (be8 eh)) (be8 el) (by kernel_rfl) (by kernel_rfl) (by (try simp only [ByteArray.size_append, ByteArray.size_extract, be2_size, be4_size, be8_size, bs_size, sz_mk, List.size_toArray, List.length_cons, List.length_nil]); omega)) w) ?_
   exact hA _ _ _ _ (s9 _ _ (x_6) _ (by kernel_rfl) (by kernel_rfl) M)
  have s10 : ∀ (a : Act) (l : Array Bool) (g2 : Nat) (w0 : World), a = ⟨#[.agg (av 4 (ls [.bool (ev), .int .u64 eh, .int .u64 el, .int .u16 ep])), .pointer (some ⟨g1, 0, none⟩), .string ⟨#[]⟩, .pointer (some ⟨g1, 0, none⟩), .pointer (some ⟨g1, 0, none⟩), .bool true, .slice (some ⟨g2, 0, none⟩) 1 1, undef, .pointer (some ⟨g1, 0, none⟩), .pointer (some ⟨g1, 1, none⟩), .int .u64 eh, .string (be8 eh), undef, .pointer (some ⟨g1, 0, none⟩), .pointer (some ⟨g1, 2, none⟩), .int .u64 el, .string (be8 el), undef, .pointer (some ⟨g1, 3, none⟩), .int .u16 ep, .string (be2 (cv .u64 ep)), undef, undef, undef, undef, undef, undef, undef, undef, undef, undef, undef, undef, undef], []⟩ → l = #[true, false, true, true, true, true, false, true, true, true, true, false, true, true, true, false, false] → Mem ⟨w, []⟩ [⟨g1, .cells (av 4 (ls [.bool (ev), .int .u64 eh, .int .u64 el, .int .u16 ep])) 28⟩, ⟨g2, .cells (av 1 (ls [.int .u8 6])) 5⟩] w0 → H 5 l a w0 := by
   intro a l g2  u0 ha hl M
   subst ha hl
   refine hB _ _ _ _ ?_
   refine hl_one 1 (by decide) (by kernel_rfl) rfl ?_
   refine pl_back M (want_no rfl) (some 7) rfl _ rfl 1 g2 1 1 (by kernel_rfl) _ rfl [6] 1 (sb_ls [6] _) rfl (by intro x hx; simp only [List.mem_cons, List.mem_nil_iff, or_false] at hx; subst hx; omega) ?_
   refine nT ?_
   refine ⟨(M.drop (.cons_cons _ (.cons _ (.slnil)))), ?_⟩
   refine hl_val (M.drop (.cons_cons _ (.cons _ (.slnil)))) 6 rfl (by decide) (by kernel_rfl) (by kernel_rfl) (want_no rfl) (some 12) rfl (.string ((bs [6]) ++ (be8 eh))) (fun w _ => (run_cat 9 9 _ _ rfl (bs [6]) (be8 eh) (by kernel_rfl) (by kernel_rfl) (by (try simp only [ByteArray.size_append, ByteArray.size_extract, be2_size, be4_size, be8_size, bs_size, sz_mk, List.size_toArray, List.length_cons, List.length_nil]); omega)) w) ?_
   refine hl_val (M.drop (.cons_cons _ (.cons _ (.slnil)))) 11 rfl (by decide) (by kernel_rfl) (by kernel_rfl) (want_no rfl) (some 17) rfl (.string (((bs [6]) ++ (be8 eh)) ++ (be8 el))) (fun w _ => (run_cat 9 9 _ _ rfl ((bs [6]) ++ (be8 eh)) (be8 el) (by kernel_rfl) (by kernel_rfl) (by (try simp only [ByteArray.size_append, ByteArray.size_extract, be2_size, be4_size, be8_size, bs_size, sz_mk, List.size_toArray, List.length_cons, List.length_nil]); omega)) w) ?_
   refine hl_val (M.drop (.cons_cons _ (.cons _ (.slnil)))) 15 rfl (by decide) (by kernel_rfl) (by kernel_rfl) (want_no rfl) (some 21) rfl (.string ((((bs [6]) ++ (be8 eh)) ++ (be8 el)) ++ (be2 (cv .u64 ep)))) (fun w _ => (run_cat 9 9 _ _ rfl (((bs [6]) ++ (be8 eh)) ++ (be8 el)) (be2 (cv .u64 ep)) (by kernel_rfl) (by kernel_rfl) (by (try simp only [ByteArray.size_append, ByteArray.size_extract, be2_size, be4_size, be8_size, bs_size, sz_mk, List.size_toArray, List.length_cons, List.length_nil]); omega)) w) ?_
   exact hA _ _ _ _ (s11 _ _ (.slice (some ⟨g2, 0, none⟩) 1 1) _ (by kernel_rfl) (by kernel_rfl) (M.drop (.cons_cons _ (.cons _ (.slnil)))))
  have s7 : ∀ (a : Act) (l : Array Bool) (g2 : Nat) (w0 : World), a = ⟨#[.agg (av 4 (ls [.bool (ev), .int .u64 eh, .int .u64 el, .int .u16 ep])), .pointer (some ⟨g1, 0, none⟩), .string ⟨#[]⟩, .pointer (some ⟨g1, 0, none⟩), .pointer (some ⟨g1, 0, none⟩), .bool true, .slice (some ⟨g2, 0, none⟩) 1 1, undef, .pointer (some ⟨g1, 0, none⟩), .pointer (some ⟨g1, 1, none⟩), .int .u64 eh, .string (be8 eh), undef, .pointer (some ⟨g1, 0, none⟩), .pointer (some ⟨g1, 2, none⟩), .int .u64 el, .string (be8 el), undef, .pointer (some ⟨g1, 3, none⟩), .int .u16 ep, undef, undef, undef, undef, undef, undef, undef, undef, undef, undef, undef, undef, undef, undef], []⟩ → l = #[true, false, true, true, true, true, false, true, true, true, true, false, true, true, false, false, false] → Mem ⟨w, []⟩ [⟨g1, .cells (av 4 (ls [.bool (ev), .int .u64 eh, .int .u64 el, .int .u16 ep])) 28⟩, ⟨g2, .cells (av 1 (ls [.int .u8 6])) 5⟩] w0 → H 6 l a w0 := by
   intro a l g2  u0 ha hl M
   subst ha hl
   refine hB _ _ _ _ ?_
   refine hl_two 1 14 (by decide) (by decide) (by kernel_rfl) rfl rfl ?_ ?_
   ·skip
    refine pl_back M (want_no rfl) (some 7) rfl _ rfl 1 g2 1 1 (by kernel_rfl) _ rfl [6] 1 (sb_ls [6] _) rfl (by intro x hx; simp only [List.mem_cons, List.mem_nil_iff, or_false] at hx; subst hx; omega) ?_
    refine nT ?_
    refine ⟨(M.drop (.cons_cons _ (.cons _ (.slnil)))), ?_⟩
    refine hl_val (M.drop (.cons_cons _ (.cons _ (.slnil)))) 6 rfl (by decide) (by kernel_rfl) (by kernel_rfl) (want_no rfl) (some 12) rfl (.string ((bs [6]) ++ (be8 eh))) (fun w _ => (run_cat 9 9 _ _ rfl (bs [6]) (be8 eh) (by kernel_rfl) (by kernel_rfl) (by (try simp only [ByteArray.size_append, ByteArray.size_extract, be2_size, be4_size, be8_size, bs_size, sz_mk, List.size_toArray, List.length_cons, List.length_nil]); omega)) w) ?_
    refine hl_val (M.drop (.cons_cons _ (.cons _ (.slnil)))) 11 rfl (by decide) (by kernel_rfl) (by kernel_rfl) (want_no rfl) (some 17) rfl (.string (((bs [6]) ++ (be8 eh)) ++ (be8 el))) (fun w _ => (run_cat 9 9 _ _ rfl ((bs [6]) ++ (be8 eh)) (be8 el) (by kernel_rfl) (by kernel_rfl) (by (try simp only [ByteArray.size_append, ByteArray.size_extract, be2_size, be4_size, be8_size, bs_size, sz_mk, List.size_toArray, List.length_cons, List.length_nil]); omega)) w) ?_
    exact hA _ _ _ _ (s9 _ _ (.slice (some ⟨g2, 0, none⟩) 1 1) _ (by kernel_rfl) (by kernel_rfl) (M.drop (.cons_cons _ (.cons _ (.slnil)))))
   ·skip
    refine pC M 20 63 #[.int .u16 ep] (.string (be2 (cv .u64 ep))) (fun w M => c_U16 ep w M.laid) fun u6 M => ?_
    refine nT ?_
    refine ⟨(M.drop (.cons_cons _ (.cons _ (.slnil)))), ?_⟩
    exact hA _ _ _ _ (s10 _ _ g2 _ (by kernel_rfl) (by kernel_rfl) M)
  have s8 : ∀ (a : Act) (l : Array Bool) (w0 : World), a = ⟨#[.agg (av 4 (ls [.bool (ev), .int .u64 eh, .int .u64 el, .int .u16 ep])), .pointer (some ⟨g1, 0, none⟩), .string ⟨#[]⟩, .pointer (some ⟨g1, 0, none⟩), .pointer (some ⟨g1, 0, none⟩), .bool true, undef, undef, .pointer (some ⟨g1, 0, none⟩), .pointer (some ⟨g1, 1, none⟩), .int .u64 eh, .string (be8 eh), undef, .pointer (some ⟨g1, 0, none⟩), .pointer (some ⟨g1, 2, none⟩), .int .u64 el, .string (be8 el), undef, .pointer (some ⟨g1, 3, none⟩), .int .u16 ep, .string (be2 (cv .u64 ep)), undef, undef, undef, undef, undef, undef, undef, undef, undef, undef, undef, undef, undef], []⟩ → l = #[false, false, true, true, true, true, false, true, true, true, true, false, true, true, true, false, false] → Mem ⟨w, []⟩ [⟨g1, .cells (av 4 (ls [.bool (ev), .int .u64 eh, .int .u64 el, .int .u16 ep])) 28⟩] w0 → H 6 l a w0 := by
   intro a l   u0 ha hl M
   subst ha hl
   refine hB _ _ _ _ ?_
   refine hl_one 0 (by decide) (by kernel_rfl) rfl ?_
   refine pl_mk M (want_no rfl) (some 6) rfl (fun g2 => .slice (some ⟨g2, 0, none⟩) 1 1) (.cells (av 1 (ls [.int .u8 6])) 5) (fun _ => by kernel_rfl) fun g2 u6 M => ?_
   replace M : Mem ⟨w, []⟩ [⟨g1, .cells (av 4 (ls [.bool (ev), .int .u64 eh, .int .u64 el, .int .u16 ep])) 28⟩, ⟨g2, .cells (av 1 (ls [.int .u8 6])) 5⟩] u6 := M
   refine nT ?_
   refine ⟨(M.drop (.cons_cons _ (.cons _ (.slnil)))), ?_⟩
   exact hA _ _ _ _ (s10 _ _ g2 _ (by kernel_rfl) (by kernel_rfl) M)
  have s3 : ∀ (a : Act) (l : Array Bool) (x_6 : Value) (w0 : World), a = ⟨#[.agg (av 4 (ls [.bool (ev), .int .u64 eh, .int .u64 el, .int .u16 ep])), .pointer (some ⟨g1, 0, none⟩), .string ⟨#[]⟩, .pointer (some ⟨g1, 0, none⟩), .pointer (some ⟨g1, 0, none⟩), .bool true, x_6, .string (bs [6]), .pointer (some ⟨g1, 0, none⟩), .pointer (some ⟨g1, 1, none⟩), .int .u64 eh, undef, undef, .pointer (some ⟨g1, 0, none⟩), .pointer (some ⟨g1, 2, none⟩), .int .u64 el, undef, undef, .pointer (some ⟨g1, 3, none⟩), .int .u16 ep, undef, undef, undef, undef, undef, undef, undef, undef, undef, undef, undef, undef, undef, undef], []⟩ → l = #[true, true, true, true, true, false, false, true, true, true, false, false, true, true, false, false, false] → Mem ⟨w, []⟩ [⟨g1, .cells (av 4 (ls [.bool (ev), .int .u64 eh, .int .u64 el, .int .u16 ep])) 28⟩] w0 → H 7 l a w0 := by
   intro a l  x_6 u0 ha hl M
   subst ha hl
   refine hB _ _ _ _ ?_
   refine hl_one 5 (by decide) (by kernel_rfl) rfl ?_
   refine pC M 11 62 #[.int .u64 eh] (.string (be8 eh)) (fun w M => c_U64 eh w M.laid) fun u4 M => ?_
   refine nT ?_
   refine ⟨M, ?_⟩
   refine hl_val M 6 rfl (by decide) (by kernel_rfl) (by kernel_rfl) (want_no rfl) (some 12) rfl (.string ((bs [6]) ++ (be8 eh))) (fun w _ => (run_cat 9 9 _ _ rfl (bs [6]) (be8 eh) (by kernel_rfl) (by kernel_rfl) (by (try simp only [ByteArray.size_append, ByteArray.size_extract, be2_size, be4_size, be8_size, bs_size, sz_mk, List.size_toArray, List.length_cons, List.length_nil]); omega)) w) ?_
   exact hA _ _ _ _ (s6 _ _ (x_6) _ (by kernel_rfl) (by kernel_rfl) M)
  have s4 : ∀ (a : Act) (l : Array Bool) (g2 : Nat) (w0 : World), a = ⟨#[.agg (av 4 (ls [.bool (ev), .int .u64 eh, .int .u64 el, .int .u16 ep])), .pointer (some ⟨g1, 0, none⟩), .string ⟨#[]⟩, .pointer (some ⟨g1, 0, none⟩), .pointer (some ⟨g1, 0, none⟩), .bool true, .slice (some ⟨g2, 0, none⟩) 1 1, undef, .pointer (some ⟨g1, 0, none⟩), .pointer (some ⟨g1, 1, none⟩), .int .u64 eh, .string (be8 eh), undef, .pointer (some ⟨g1, 0, none⟩), .pointer (some ⟨g1, 2, none⟩), .int .u64 el, undef, undef, .pointer (some ⟨g1, 3, none⟩), .int .u16 ep, undef, undef, undef, undef, undef, undef, undef, undef, undef, undef, undef, undef, undef, undef], []⟩ → l = #[true, false, true, true, true, true, false, true, true, true, false, false, true, true, false, false, false] → Mem ⟨w, []⟩ [⟨g1, .cells (av 4 (ls [.bool (ev), .int .u64 eh, .int .u64 el, .int .u16 ep])) 28⟩, ⟨g2, .cells (av 1 (ls [.int .u8 6])) 5⟩] w0 → H 7 l a w0 := by
   intro a l g2  u0 ha hl M
   subst ha hl
   refine hB _ _ _ _ ?_
   refine hl_two 1 10 (by decide) (by decide) (by kernel_rfl) rfl rfl ?_ ?_
   ·skip
    refine pl_back M (want_no rfl) (some 7) rfl _ rfl 1 g2 1 1 (by kernel_rfl) _ rfl [6] 1 (sb_ls [6] _) rfl (by intro x hx; simp only [List.mem_cons, List.mem_nil_iff, or_false] at hx; subst hx; omega) ?_
    refine nT ?_
    refine ⟨(M.drop (.cons_cons _ (.cons _ (.slnil)))), ?_⟩
    refine hl_val (M.drop (.cons_cons _ (.cons _ (.slnil)))) 6 rfl (by decide) (by kernel_rfl) (by kernel_rfl) (want_no rfl) (some 12) rfl (.string ((bs [6]) ++ (be8 eh))) (fun w _ => (run_cat 9 9 _ _ rfl (bs [6]) (be8 eh) (by kernel_rfl) (by kernel_rfl) (by (try simp only [ByteArray.size_append, ByteArray.size_extract, be2_size, be4_size, be8_size, bs_size, sz_mk, List.size_toArray, List.length_cons, List.length_nil]); omega)) w) ?_
    exact hA _ _ _ _ (s6 _ _ (.slice (some ⟨g2, 0, none⟩) 1 1) _ (by kernel_rfl) (by kernel_rfl) (M.drop (.cons_cons _ (.cons _ (.slnil)))))
   ·skip
    refine pC M 16 62 #[.int .u64 el] (.string (be8 el)) (fun w M => c_U64 el w M.laid) fun u5 M => ?_
    refine nT ?_
    refine ⟨(M.drop (.cons_cons _ (.cons _ (.slnil)))), ?_⟩
    exact hA _ _ _ _ (s7 _ _ g2 _ (by kernel_rfl) (by kernel_rfl) M)
  have s5 : ∀ (a : Act) (l : Array Bool) (w0 : World), a = ⟨#[.agg (av 4 (ls [.bool (ev), .int .u64 eh, .int .u64 el, .int .u16 ep])), .pointer (some ⟨g1, 0, none⟩), .string ⟨#[]⟩, .pointer (some ⟨g1, 0, none⟩), .pointer (some ⟨g1, 0, none⟩), .bool true, undef, undef, .pointer (some ⟨g1, 0, none⟩), .pointer (some ⟨g1, 1, none⟩), .int .u64 eh, .string (be8 eh), undef, .pointer (some ⟨g1, 0, none⟩), .pointer (some ⟨g1, 2, none⟩), .int .u64 el, .string (be8 el), undef, .pointer (some ⟨g1, 3, none⟩), .int .u16 ep, undef, undef, undef, undef, undef, undef, undef, undef, undef, undef, undef, undef, undef, undef], []⟩ → l = #[false, false, true, true, true, true, false, true, true, true, true, false, true, true, false, false, false] → Mem ⟨w, []⟩ [⟨g1, .cells (av 4 (ls [.bool (ev), .int .u64 eh, .int .u64 el, .int .u16 ep])) 28⟩] w0 → H 7 l a w0 := by
   intro a l   u0 ha hl M
   subst ha hl
   refine hB _ _ _ _ ?_
   refine hl_two 0 14 (by decide) (by decide) (by kernel_rfl) rfl rfl ?_ ?_
   ·skip
    refine pl_mk M (want_no rfl) (some 6) rfl (fun g2 => .slice (some ⟨g2, 0, none⟩) 1 1) (.cells (av 1 (ls [.int .u8 6])) 5) (fun _ => by kernel_rfl) fun g2 u5 M => ?_
    replace M : Mem ⟨w, []⟩ [⟨g1, .cells (av 4 (ls [.bool (ev), .int .u64 eh, .int .u64 el, .int .u16 ep])) 28⟩, ⟨g2, .cells (av 1 (ls [.int .u8 6])) 5⟩] u5 := M
    refine nT ?_
    refine ⟨(M.drop (.cons_cons _ (.cons _ (.slnil)))), ?_⟩
    exact hA _ _ _ _ (s7 _ _ g2 _ (by kernel_rfl) (by kernel_rfl) M)
   ·skip
    refine pC M 20 63 #[.int .u16 ep] (.string (be2 (cv .u64 ep))) (fun w M => c_U16 ep w M.laid) fun u5 M => ?_
    refine nT ?_
    refine ⟨M, ?_⟩
    exact hA _ _ _ _ (s8 _ _  _ (by kernel_rfl) (by kernel_rfl) M)
  have s1 : ∀ (a : Act) (l : Array Bool) (g2 : Nat) (w0 : World), a = ⟨#[.agg (av 4 (ls [.bool (ev), .int .u64 eh, .int .u64 el, .int .u16 ep])), .pointer (some ⟨g1, 0, none⟩), .string ⟨#[]⟩, .pointer (some ⟨g1, 0, none⟩), .pointer (some ⟨g1, 0, none⟩), .bool true, .slice (some ⟨g2, 0, none⟩) 1 1, undef, .pointer (some ⟨g1, 0, none⟩), .pointer (some ⟨g1, 1, none⟩), .int .u64 eh, undef, undef, .pointer (some ⟨g1, 0, none⟩), .pointer (some ⟨g1, 2, none⟩), .int .u64 el, undef, undef, .pointer (some ⟨g1, 3, none⟩), .int .u16 ep, undef, undef, undef, undef, undef, undef, undef, undef, undef, undef, undef, undef, undef, undef], []⟩ → l = #[true, false, true, true, true, false, false, true, true, true, false, false, true, true, false, false, false] → Mem ⟨w, []⟩ [⟨g1, .cells (av 4 (ls [.bool (ev), .int .u64 eh, .int .u64 el, .int .u16 ep])) 28⟩, ⟨g2, .cells (av 1 (ls [.int .u8 6])) 5⟩] w0 → H 8 l a w0 := by
   intro a l g2  u0 ha hl M
   subst ha hl
   refine hB _ _ _ _ ?_
   refine hl_two 1 5 (by decide) (by decide) (by kernel_rfl) rfl rfl ?_ ?_
   ·skip
    refine pl_back M (want_no rfl) (some 7) rfl _ rfl 1 g2 1 1 (by kernel_rfl) _ rfl [6] 1 (sb_ls [6] _) rfl (by intro x hx; simp only [List.mem_cons, List.mem_nil_iff, or_false] at hx; subst hx; omega) ?_
    refine nT ?_
    refine ⟨(M.drop (.cons_cons _ (.cons _ (.slnil)))), ?_⟩
    exact hA _ _ _ _ (s3 _ _ (.slice (some ⟨g2, 0, none⟩) 1 1) _ (by kernel_rfl) (by kernel_rfl) (M.drop (.cons_cons _ (.cons _ (.slnil)))))
   ·skip
    refine pC M 11 62 #[.int .u64 eh] (.string (be8 eh)) (fun w M => c_U64 eh w M.laid) fun u4 M => ?_
    refine nT ?_
    refine ⟨(M.drop (.cons_cons _ (.cons _ (.slnil)))), ?_⟩
    exact hA _ _ _ _ (s4 _ _ g2 _ (by kernel_rfl) (by kernel_rfl) M)
  have s2 : ∀ (a : Act) (l : Array Bool) (w0 : World), a = ⟨#[.agg (av 4 (ls [.bool (ev), .int .u64 eh, .int .u64 el, .int .u16 ep])), .pointer (some ⟨g1, 0, none⟩), .string ⟨#[]⟩, .pointer (some ⟨g1, 0, none⟩), .pointer (some ⟨g1, 0, none⟩), .bool true, undef, undef, .pointer (some ⟨g1, 0, none⟩), .pointer (some ⟨g1, 1, none⟩), .int .u64 eh, .string (be8 eh), undef, .pointer (some ⟨g1, 0, none⟩), .pointer (some ⟨g1, 2, none⟩), .int .u64 el, undef, undef, .pointer (some ⟨g1, 3, none⟩), .int .u16 ep, undef, undef, undef, undef, undef, undef, undef, undef, undef, undef, undef, undef, undef, undef], []⟩ → l = #[false, false, true, true, true, true, false, true, true, true, false, false, true, true, false, false, false] → Mem ⟨w, []⟩ [⟨g1, .cells (av 4 (ls [.bool (ev), .int .u64 eh, .int .u64 el, .int .u16 ep])) 28⟩] w0 → H 8 l a w0 := by
   intro a l   u0 ha hl M
   subst ha hl
   refine hB _ _ _ _ ?_
   refine hl_two 0 10 (by decide) (by decide) (by kernel_rfl) rfl rfl ?_ ?_
   ·skip
    refine pl_mk M (want_no rfl) (some 6) rfl (fun g2 => .slice (some ⟨g2, 0, none⟩) 1 1) (.cells (av 1 (ls [.int .u8 6])) 5) (fun _ => by kernel_rfl) fun g2 u4 M => ?_
    replace M : Mem ⟨w, []⟩ [⟨g1, .cells (av 4 (ls [.bool (ev), .int .u64 eh, .int .u64 el, .int .u16 ep])) 28⟩, ⟨g2, .cells (av 1 (ls [.int .u8 6])) 5⟩] u4 := M
    refine nT ?_
    refine ⟨(M.drop (.cons_cons _ (.cons _ (.slnil)))), ?_⟩
    exact hA _ _ _ _ (s4 _ _ g2 _ (by kernel_rfl) (by kernel_rfl) M)
   ·skip
    refine pC M 16 62 #[.int .u64 el] (.string (be8 el)) (fun w M => c_U64 el w M.laid) fun u4 M => ?_
    refine nT ?_
    refine ⟨M, ?_⟩
    exact hA _ _ _ _ (s5 _ _  _ (by kernel_rfl) (by kernel_rfl) M)
  have s0 : ∀ (a : Act) (l : Array Bool) (w0 : World), a = ⟨#[.agg (av 4 (ls [.bool (ev), .int .u64 eh, .int .u64 el, .int .u16 ep])), .pointer (some ⟨g1, 0, none⟩), .string ⟨#[]⟩, .pointer (some ⟨g1, 0, none⟩), .pointer (some ⟨g1, 0, none⟩), .bool true, undef, undef, .pointer (some ⟨g1, 0, none⟩), .pointer (some ⟨g1, 1, none⟩), .int .u64 eh, undef, undef, .pointer (some ⟨g1, 0, none⟩), .pointer (some ⟨g1, 2, none⟩), .int .u64 el, undef, undef, .pointer (some ⟨g1, 3, none⟩), .int .u16 ep, undef, undef, undef, undef, undef, undef, undef, undef, undef, undef, undef, undef, undef, undef], []⟩ → l = #[false, false, true, true, true, false, false, true, true, true, false, false, true, true, false, false, false] → Mem ⟨w, []⟩ [⟨g1, .cells (av 4 (ls [.bool (ev), .int .u64 eh, .int .u64 el, .int .u16 ep])) 28⟩] w0 → H 9 l a w0 := by
   intro a l   u0 ha hl M
   subst ha hl
   refine hB _ _ _ _ ?_
   refine hl_two 0 5 (by decide) (by decide) (by kernel_rfl) rfl rfl ?_ ?_
   ·skip
    refine pl_mk M (want_no rfl) (some 6) rfl (fun g2 => .slice (some ⟨g2, 0, none⟩) 1 1) (.cells (av 1 (ls [.int .u8 6])) 5) (fun _ => by kernel_rfl) fun g2 u3 M => ?_
    replace M : Mem ⟨w, []⟩ [⟨g1, .cells (av 4 (ls [.bool (ev), .int .u64 eh, .int .u64 el, .int .u16 ep])) 28⟩, ⟨g2, .cells (av 1 (ls [.int .u8 6])) 5⟩] u3 := M
    refine nT ?_
    refine ⟨(M.drop (.cons_cons _ (.cons _ (.slnil)))), ?_⟩
    exact hA _ _ _ _ (s1 _ _ g2 _ (by kernel_rfl) (by kernel_rfl) M)
   ·skip
    refine pC M 11 62 #[.int .u64 eh] (.string (be8 eh)) (fun w M => c_U64 eh w M.laid) fun u3 M => ?_
    refine nT ?_
    refine ⟨M, ?_⟩
    exact hA _ _ _ _ (s2 _ _  _ (by kernel_rfl) (by kernel_rfl) M)
  exact s0 _ _  _ (by kernel_rfl) (by kernel_rfl) M
 ·skip
  refine pEz M 5 g1 0 (.bool false) (fun w M => M.cell 0 rfl (by decide) (congrArg Value.bool c0)) ?_
  refine nT ?_
  refine wp_cond_false (by kernel_rfl) ?_
  refine wp_skip ?_
  refine au_then ?_
  refine wp_seq ?_
  refine rg_held M [⟨g1, .cells (av 4 (ls [.bool (ev), .int .u64 eh, .int .u64 el, .int .u16 ep])) 28⟩] 12 rfl (by kernel_rfl) (by kernel_rfl) (fun _ _ d _ _ h => by cases d <;> exact h) fun u2 M => ?_
  replace M : Mem ⟨w, []⟩ [⟨g1, .cells (av 4 (ls [.bool (ev), .int .u64 eh, .int .u64 el, .int .u16 ep])) 28⟩] u2 := M
  refine qV M 2 24 (.pointer (some ⟨g1, 0, none⟩)) ?_
  refine qV M 3 25 (.pointer (some ⟨g1, 2, none⟩)) ?_
  refine hl_cell M 4 rfl (by decide) (by kernel_rfl) (by kernel_rfl) (want_no rfl) (some 26) rfl 23 _ rfl g1 2 (by kernel_rfl) (.int .u64 el) (fun _ => by kernel_rfl) (fun w M => M.cell 0 rfl (by decide) rfl) ?_
  refine qV M 5 27 (.int .u32 (cv .u32 el)) ?_
  refine qV M 8 30 (.pointer (some ⟨g1, 3, none⟩)) ?_
  refine hl_cell M 9 rfl (by decide) (by kernel_rfl) (by kernel_rfl) (want_no rfl) (some 31) rfl 26 _ rfl g1 3 (by kernel_rfl) (.int .u16 ep) (fun _ => by kernel_rfl) (fun w M => M.cell 0 rfl (by decide) rfl) ?_
  refine hl_name ?_
  intro H hA hB
  have s8 : ∀ (a : Act) (l : Array Bool) (x_22 : Value) (w0 : World), a = ⟨#[.agg (av 4 (ls [.bool (ev), .int .u64 eh, .int .u64 el, .int .u16 ep])), .pointer (some ⟨g1, 0, none⟩), .string ⟨#[]⟩, .pointer (some ⟨g1, 0, none⟩), .pointer (some ⟨g1, 0, none⟩), .bool false, undef, undef, undef, undef, undef, undef, undef, undef, undef, undef, undef, undef, undef, undef, undef, undef, x_22, .string (bs [4]), .pointer (some ⟨g1, 0, none⟩), .pointer (some ⟨g1, 2, none⟩), .int .u64 el, .int .u32 (cv .u32 el), .string (be4 (cv .u64 (cv .u32 el))), .string ((bs [4]) ++ (be4 (cv .u64 (cv .u32 el)))), .pointer (some ⟨g1, 3, none⟩), .int .u16 ep, .string (be2 (cv .u64 ep)), .string (((bs [4]) ++ (be4 (cv .u64 (cv .u32 el)))) ++ (be2 (cv .u64 ep)))], []⟩ → l = #[true, true, true, true, true, true, true, true, true, true, true, true, false] → Mem ⟨w, []⟩ [⟨g1, .cells (av 4 (ls [.bool (ev), .int .u64 eh, .int .u64 el, .int .u16 ep])) 28⟩] w0 → H 1 l a w0 := by
   intro a l  x_22 u0 ha hl M
   subst ha hl
   refine hB _ _ _ _ ?_
   refine hl_end (by kernel_rfl) (by kernel_rfl) rfl ?_
   refine pV 2 (.string (((bs [4]) ++ (be4 (cv .u64 (cv .u32 el)))) ++ (be2 (cv .u64 ep)))) ?_
   refine nT ?_
   refine au_then ?_
   refine wp_ret ?_
   have e0 : (enB ev eh el ep) = (((bs [4]) ++ (be4 (cv .u64 (cv .u32 el)))) ++ (be2 (cv .u64 ep))) := by simp only [enB, if_neg (Bool.eq_false_iff.1 c0)]
   exact bodyPost_ret (v := .string (((bs [4]) ++ (be4 (cv .u64 (cv .u32 el)))) ++ (be2 (cv .u64 ep)))) (results_tmp1 Try.results64 _ _ _ (by kernel_rfl)) (by kernel_rfl) ⟨by rw [e0], below_grown M.old⟩
  have s6 : ∀ (a : Act) (l : Array Bool) (x_22 : Value) (w0 : World), a = ⟨#[.agg (av 4 (ls [.bool (ev), .int .u64 eh, .int .u64 el, .int .u16 ep])), .pointer (some ⟨g1, 0, none⟩), .string ⟨#[]⟩, .pointer (some ⟨g1, 0, none⟩), .pointer (some ⟨g1, 0, none⟩), .bool false, undef, undef, undef, undef, undef, undef, undef, undef, undef, undef, undef, undef, undef, undef, undef, undef, x_22, .string (bs [4]), .pointer (some ⟨g1, 0, none⟩), .pointer (some ⟨g1, 2, none⟩), .int .u64 el, .int .u32 (cv .u32 el), .string (be4 (cv .u64 (cv .u32 el))), .string ((bs [4]) ++ (be4 (cv .u64 (cv .u32 el)))), .pointer (some ⟨g1, 3, none⟩), .int .u16 ep, undef, undef], []⟩ → l = #[true, true, true, true, true, true, true, true, true, true, false, false, false] → Mem ⟨w, []⟩ [⟨g1, .cells (av 4 (ls [.bool (ev), .int .u64 eh, .int .u64 el, .int .u16 ep])) 28⟩] w0 → H 3 l a w0 := by
   intro a l  x_22 u0 ha hl M
   subst ha hl
   refine hB _ _ _ _ ?_
   refine hl_one 10 (by decide) (by kernel_rfl) rfl ?_
   refine pC M 32 63 #[.int .u16 ep] (.string (be2 (cv .u64 ep))) (fun w M => c_U16 ep w M.laid) fun u5 M => ?_
   refine nT ?_
   refine ⟨M, ?_⟩
   refine hl_val M 11 rfl (by decide) (by kernel_rfl) (by kernel_rfl) (want_no rfl) (some 33) rfl (.string (((bs [4]) ++ (be4 (cv .u64 (cv .u32 el)))) ++ (be2 (cv .u64 ep)))) (fun w _ => (run_cat 9 9 _ _ rfl ((bs [4]) ++ (be4 (cv .u64 (cv .u32 el)))) (be2 (cv .u64 ep)) (by kernel_rfl) (by kernel_rfl) (by (try simp only [ByteArray.size_append, ByteArray.size_extract, be2_size, be4_size, be8_size, bs_size, sz_mk, List.size_toArray, List.length_cons, List.length_nil]); omega)) w) ?_
   exact hA _ _ _ _ (s8 _ _ (x_22) _ (by kernel_rfl) (by kernel_rfl) M)
  have s7 : ∀ (a : Act) (l : Array Bool) (g2 : Nat) (w0 : World), a = ⟨#[.agg (av 4 (ls [.bool (ev), .int .u64 eh, .int .u64 el, .int .u16 ep])), .pointer (some ⟨g1, 0, none⟩), .string ⟨#[]⟩, .pointer (some ⟨g1, 0, none⟩), .pointer (some ⟨g1, 0, none⟩), .bool false, undef, undef, undef, undef, undef, undef, undef, undef, undef, undef, undef, undef, undef, undef, undef, undef, .slice (some ⟨g2, 0, none⟩) 1 1, undef, .pointer (some ⟨g1, 0, none⟩), .pointer (some ⟨g1, 2, none⟩), .int .u64 el, .int .u32 (cv .u32 el), .string (be4 (cv .u64 (cv .u32 el))), undef, .pointer (some ⟨g1, 3, none⟩), .int .u16 ep, .string (be2 (cv .u64 ep)), undef], []⟩ → l = #[true, false, true, true, true, true, true, false, true, true, true, false, false] → Mem ⟨w, []⟩ [⟨g1, .cells (av 4 (ls [.bool (ev), .int .u64 eh, .int .u64 el, .int .u16 ep])) 28⟩, ⟨g2, .cells (av 1 (ls [.int .u8 4])) 5⟩] w0 → H 4 l a w0 := by
   intro a l g2  u0 ha hl M
   subst ha hl
   refine hB _ _ _ _ ?_
   refine hl_one 1 (by decide) (by kernel_rfl) rfl ?_
   refine pl_back M (want_no rfl) (some 23) rfl _ rfl 1 g2 1 1 (by kernel_rfl) _ rfl [4] 1 (sb_ls [4] _) rfl (by intro x hx; simp only [List.mem_cons, List.mem_nil_iff, or_false] at hx; subst hx; omega) ?_
   refine nT ?_
   refine ⟨(M.drop (.cons_cons _ (.cons _ (.slnil)))), ?_⟩
   refine hl_val (M.drop (.cons_cons _ (.cons _ (.slnil)))) 7 rfl (by decide) (by kernel_rfl) (by kernel_rfl) (want_no rfl) (some 29) rfl (.string ((bs [4]) ++ (be4 (cv .u64 (cv .u32 el))))) (fun w _ => (run_cat 9 9 _ _ rfl (bs [4]) (be4 (cv .u64 (cv .u32 el))) (by kernel_rfl) (by kernel_rfl) (by (try simp only [ByteArray.size_append, ByteArray.size_extract, be2_size, be4_size, be8_size, bs_size, sz_mk, List.size_toArray, List.length_cons, List.length_nil]); omega)) w) ?_
   refine hl_val (M.drop (.cons_cons _ (.cons _ (.slnil)))) 11 rfl (by decide) (by kernel_rfl) (by kernel_rfl) (want_no rfl) (some 33) rfl (.string (((bs [4]) ++ (be4 (cv .u64 (cv .u32 el)))) ++ (be2 (cv .u64 ep)))) (fun w _ => (run_cat 9 9 _ _ rfl ((bs [4]) ++ (be4 (cv .u64 (cv .u32 el)))) (be2 (cv .u64 ep)) (by kernel_rfl) (by kernel_rfl) (by (try simp only [ByteArray.size_append, ByteArray.size_extract, be2_size, be4_size, be8_size, bs_size, sz_mk, List.size_toArray, List.length_cons, List.length_nil]); omega)) w) ?_
   exact hA _ _ _ _ (s8 _ _ (.slice (some ⟨g2, 0, none⟩) 1 1) _ (by kernel_rfl) (by kernel_rfl) (M.drop (.cons_cons _ (.cons _ (.slnil)))))
  have s3 : ∀ (a : Act) (l : Array Bool) (x_22 : Value) (w0 : World), a = ⟨#[.agg (av 4 (ls [.bool (ev), .int .u64 eh, .int .u64 el, .int .u16 ep])), .pointer (some ⟨g1, 0, none⟩), .string ⟨#[]⟩, .pointer (some ⟨g1, 0, none⟩), .pointer (some ⟨g1, 0, none⟩), .bool false, undef, undef, undef, undef, undef, undef, undef, undef, undef, undef, undef, undef, undef, undef, undef, undef, x_22, .string (bs [4]), .pointer (some ⟨g1, 0, none⟩), .pointer (some ⟨g1, 2, none⟩), .int .u64 el, .int .u32 (cv .u32 el), undef, undef, .pointer (some ⟨g1, 3, none⟩), .int .u16 ep, undef, undef], []⟩ → l = #[true, true, true, true, true, true, false, false, true, true, false, false, false] → Mem ⟨w, []⟩ [⟨g1, .cells (av 4 (ls [.bool (ev), .int .u64 eh, .int .u64 el, .int .u16 ep])) 28⟩] w0 → H 5 l a w0 := by
   intro a l  x_22 u0 ha hl M
   subst ha hl
   refine hB _ _ _ _ ?_
   refine hl_one 6 (by decide) (by kernel_rfl) rfl ?_
   refine pC M 28 61 #[.int .u32 (cv .u32 el)] (.string (be4 (cv .u64 (cv .u32 el)))) (fun w M => c_U32 (cv .u32 el) w M.laid) fun u4 M => ?_
   refine nT ?_
   refine ⟨M, ?_⟩
   refine hl_val M 7 rfl (by decide) (by kernel_rfl) (by kernel_rfl) (want_no rfl) (some 29) rfl (.string ((bs [4]) ++ (be4 (cv .u64 (cv .u32 el))))) (fun w _ => (run_cat 9 9 _ _ rfl (bs [4]) (be4 (cv .u64 (cv .u32 el))) (by kernel_rfl) (by kernel_rfl) (by (try simp only [ByteArray.size_append, ByteArray.size_extract, be2_size, be4_size, be8_size, bs_size, sz_mk, List.size_toArray, List.length_cons, List.length_nil]); omega)) w) ?_
   exact hA _ _ _ _ (s6 _ _ (x_22) _ (by kernel_rfl) (by kernel_rfl) M)
  have s4 : ∀ (a : Act) (l : Array Bool) (g2 : Nat) (w0 : World), a = ⟨#[.agg (av 4 (ls [.bool (ev), .int .u64 eh, .int .u64 el, .int .u16 ep])), .pointer (some ⟨g1, 0, none⟩), .string ⟨#[]⟩, .pointer (some ⟨g1, 0, none⟩), .pointer (some ⟨g1, 0, none⟩), .bool false, undef, undef, undef, undef, undef, undef, undef, undef, undef, undef, undef, undef, undef, undef, undef, undef, .slice (some ⟨g2, 0, none⟩) 1 1, undef, .pointer (some ⟨g1, 0, none⟩), .pointer (some ⟨g1, 2, none⟩), .int .u64 el, .int .u32 (cv .u32 el), .string (be4 (cv .u64 (cv .u32 el))), undef, .pointer (some ⟨g1, 3, none⟩), .int .u16 ep, undef, undef], []⟩ → l = #[true, false, true, true, true, true, true, false, true, true, false, false, false] → Mem ⟨w, []⟩ [⟨g1, .cells (av 4 (ls [.bool (ev), .int .u64 eh, .int .u64 el, .int .u16 ep])) 28⟩, ⟨g2, .cells (av 1 (ls [.int .u8 4])) 5⟩] w0 → H 5 l a w0 := by
   intro a l g2  u0 ha hl M
   subst ha hl
   refine hB _ _ _ _ ?_
   refine hl_two 1 10 (by decide) (by decide) (by kernel_rfl) rfl rfl ?_ ?_
   ·skip
    refine pl_back M (want_no rfl) (some 23) rfl _ rfl 1 g2 1 1 (by kernel_rfl) _ rfl [4] 1 (sb_ls [4] _) rfl (by intro x hx; simp only [List.mem_cons, List.mem_nil_iff, or_false] at hx; subst hx; omega) ?_
    refine nT ?_
    refine ⟨(M.drop (.cons_cons _ (.cons _ (.slnil)))), ?_⟩
    refine hl_val (M.drop (.cons_cons _ (.cons _ (.slnil)))) 7 rfl (by decide) (by kernel_rfl) (by kernel_rfl) (want_no rfl) (some 29) rfl (.string ((bs [4]) ++ (be4 (cv .u64 (cv .u32 el))))) (fun w _ => (run_cat 9 9 _ _ rfl (bs [4]) (be4 (cv .u64 (cv .u32 el))) (by kernel_rfl) (by kernel_rfl) (by (try simp only [ByteArray.size_append, ByteArray.size_extract, be2_size, be4_size, be8_size, bs_size, sz_mk, List.size_toArray, List.length_cons, List.length_nil]); omega)) w) ?_
    exact hA _ _ _ _ (s6 _ _ (.slice (some ⟨g2, 0, none⟩) 1 1) _ (by kernel_rfl) (by kernel_rfl) (M.drop (.cons_cons _ (.cons _ (.slnil)))))
   ·skip
    refine pC M 32 63 #[.int .u16 ep] (.string (be2 (cv .u64 ep))) (fun w M => c_U16 ep w M.laid) fun u5 M => ?_
    refine nT ?_
    refine ⟨(M.drop (.cons_cons _ (.cons _ (.slnil)))), ?_⟩
    exact hA _ _ _ _ (s7 _ _ g2 _ (by kernel_rfl) (by kernel_rfl) M)
  have s5 : ∀ (a : Act) (l : Array Bool) (w0 : World), a = ⟨#[.agg (av 4 (ls [.bool (ev), .int .u64 eh, .int .u64 el, .int .u16 ep])), .pointer (some ⟨g1, 0, none⟩), .string ⟨#[]⟩, .pointer (some ⟨g1, 0, none⟩), .pointer (some ⟨g1, 0, none⟩), .bool false, undef, undef, undef, undef, undef, undef, undef, undef, undef, undef, undef, undef, undef, undef, undef, undef, undef, undef, .pointer (some ⟨g1, 0, none⟩), .pointer (some ⟨g1, 2, none⟩), .int .u64 el, .int .u32 (cv .u32 el), .string (be4 (cv .u64 (cv .u32 el))), undef, .pointer (some ⟨g1, 3, none⟩), .int .u16 ep, .string (be2 (cv .u64 ep)), undef], []⟩ → l = #[false, false, true, true, true, true, true, false, true, true, true, false, false] → Mem ⟨w, []⟩ [⟨g1, .cells (av 4 (ls [.bool (ev), .int .u64 eh, .int .u64 el, .int .u16 ep])) 28⟩] w0 → H 5 l a w0 := by
   intro a l   u0 ha hl M
   subst ha hl
   refine hB _ _ _ _ ?_
   refine hl_one 0 (by decide) (by kernel_rfl) rfl ?_
   refine pl_mk M (want_no rfl) (some 22) rfl (fun g2 => .slice (some ⟨g2, 0, none⟩) 1 1) (.cells (av 1 (ls [.int .u8 4])) 5) (fun _ => by kernel_rfl) fun g2 u5 M => ?_
   replace M : Mem ⟨w, []⟩ [⟨g1, .cells (av 4 (ls [.bool (ev), .int .u64 eh, .int .u64 el, .int .u16 ep])) 28⟩, ⟨g2, .cells (av 1 (ls [.int .u8 4])) 5⟩] u5 := M
   refine nT ?_
   refine ⟨(M.drop (.cons_cons _ (.cons _ (.slnil)))), ?_⟩
   exact hA _ _ _ _ (s7 _ _ g2 _ (by kernel_rfl) (by kernel_rfl) M)
  have s1 : ∀ (a : Act) (l : Array Bool) (g2 : Nat) (w0 : World), a = ⟨#[.agg (av 4 (ls [.bool (ev), .int .u64 eh, .int .u64 el, .int .u16 ep])), .pointer (some ⟨g1, 0, none⟩), .string ⟨#[]⟩, .pointer (some ⟨g1, 0, none⟩), .pointer (some ⟨g1, 0, none⟩), .bool false, undef, undef, undef, undef, undef, undef, undef, undef, undef, undef, undef, undef, undef, undef, undef, undef, .slice (some ⟨g2, 0, none⟩) 1 1, undef, .pointer (some ⟨g1, 0, none⟩), .pointer (some ⟨g1, 2, none⟩), .int .u64 el, .int .u32 (cv .u32 el), undef, undef, .pointer (some ⟨g1, 3, none⟩), .int .u16 ep, undef, undef], []⟩ → l = #[true, false, true, true, true, true, false, false, true, true, false, false, false] → Mem ⟨w, []⟩ [⟨g1, .cells (av 4 (ls [.bool (ev), .int .u64 eh, .int .u64 el, .int .u16 ep])) 28⟩, ⟨g2, .cells (av 1 (ls [.int .u8 4])) 5⟩] w0 → H 6 l a w0 := by
   intro a l g2  u0 ha hl M
   subst ha hl
   refine hB _ _ _ _ ?_
   refine hl_two 1 6 (by decide) (by decide) (by kernel_rfl) rfl rfl ?_ ?_
   ·skip
    refine pl_back M (want_no rfl) (some 23) rfl _ rfl 1 g2 1 1 (by kernel_rfl) _ rfl [4] 1 (sb_ls [4] _) rfl (by intro x hx; simp only [List.mem_cons, List.mem_nil_iff, or_false] at hx; subst hx; omega) ?_
    refine nT ?_
    refine ⟨(M.drop (.cons_cons _ (.cons _ (.slnil)))), ?_⟩
    exact hA _ _ _ _ (s3 _ _ (.slice (some ⟨g2, 0, none⟩) 1 1) _ (by kernel_rfl) (by kernel_rfl) (M.drop (.cons_cons _ (.cons _ (.slnil)))))
   ·skip
    refine pC M 28 61 #[.int .u32 (cv .u32 el)] (.string (be4 (cv .u64 (cv .u32 el)))) (fun w M => c_U32 (cv .u32 el) w M.laid) fun u4 M => ?_
    refine nT ?_
    refine ⟨(M.drop (.cons_cons _ (.cons _ (.slnil)))), ?_⟩
    exact hA _ _ _ _ (s4 _ _ g2 _ (by kernel_rfl) (by kernel_rfl) M)
  have s2 : ∀ (a : Act) (l : Array Bool) (w0 : World), a = ⟨#[.agg (av 4 (ls [.bool (ev), .int .u64 eh, .int .u64 el, .int .u16 ep])), .pointer (some ⟨g1, 0, none⟩), .string ⟨#[]⟩, .pointer (some ⟨g1, 0, none⟩), .pointer (some ⟨g1, 0, none⟩), .bool false, undef, undef, undef, undef, undef, undef, undef, undef, undef, undef, undef, undef, undef, undef, undef, undef, undef, undef, .pointer (some ⟨g1, 0, none⟩), .pointer (some ⟨g1, 2, none⟩), .int .u64 el, .int .u32 (cv .u32 el), .string (be4 (cv .u64 (cv .u32 el))), undef, .pointer (some ⟨g1, 3, none⟩), .int .u16 ep, undef, undef], []⟩ → l = #[false, false, true, true, true, true, true, false, true, true, false, false, false] → Mem ⟨w, []⟩ [⟨g1, .cells (av 4 (ls [.bool (ev), .int .u64 eh, .int .u64 el, .int .u16 ep])) 28⟩] w0 → H 6 l a w0 := by
   intro a l   u0 ha hl M
   subst ha hl
   refine hB _ _ _ _ ?_
   refine hl_two 0 10 (by decide) (by decide) (by kernel_rfl) rfl rfl ?_ ?_
   ·skip
    refine pl_mk M (want_no rfl) (some 22) rfl (fun g2 => .slice (some ⟨g2, 0, none⟩) 1 1) (.cells (av 1 (ls [.int .u8 4])) 5) (fun _ => by kernel_rfl) fun g2 u4 M => ?_
    replace M : Mem ⟨w, []⟩ [⟨g1, .cells (av 4 (ls [.bool (ev), .int .u64 eh, .int .u64 el, .int .u16 ep])) 28⟩, ⟨g2, .cells (av 1 (ls [.int .u8 4])) 5⟩] u4 := M
    refine nT ?_
    refine ⟨(M.drop (.cons_cons _ (.cons _ (.slnil)))), ?_⟩
    exact hA _ _ _ _ (s4 _ _ g2 _ (by kernel_rfl) (by kernel_rfl) M)
   ·skip
    refine pC M 32 63 #[.int .u16 ep] (.string (be2 (cv .u64 ep))) (fun w M => c_U16 ep w M.laid) fun u4 M => ?_
    refine nT ?_
    refine ⟨M, ?_⟩
    exact hA _ _ _ _ (s5 _ _  _ (by kernel_rfl) (by kernel_rfl) M)
  have s0 : ∀ (a : Act) (l : Array Bool) (w0 : World), a = ⟨#[.agg (av 4 (ls [.bool (ev), .int .u64 eh, .int .u64 el, .int .u16 ep])), .pointer (some ⟨g1, 0, none⟩), .string ⟨#[]⟩, .pointer (some ⟨g1, 0, none⟩), .pointer (some ⟨g1, 0, none⟩), .bool false, undef, undef, undef, undef, undef, undef, undef, undef, undef, undef, undef, undef, undef, undef, undef, undef, undef, undef, .pointer (some ⟨g1, 0, none⟩), .pointer (some ⟨g1, 2, none⟩), .int .u64 el, .int .u32 (cv .u32 el), undef, undef, .pointer (some ⟨g1, 3, none⟩), .int .u16 ep, undef, undef], []⟩ → l = #[false, false, true, true, true, true, false, false, true, true, false, false, false] → Mem ⟨w, []⟩ [⟨g1, .cells (av 4 (ls [.bool (ev), .int .u64 eh, .int .u64 el, .int .u16 ep])) 28⟩] w0 → H 7 l a w0 := by
   intro a l   u0 ha hl M
   subst ha hl
   refine hB _ _ _ _ ?_
   refine hl_two 0 6 (by decide) (by decide) (by kernel_rfl) rfl rfl ?_ ?_
   ·skip
    refine pl_mk M (want_no rfl) (some 22) rfl (fun g2 => .slice (some ⟨g2, 0, none⟩) 1 1) (.cells (av 1 (ls [.int .u8 4])) 5) (fun _ => by kernel_rfl) fun g2 u3 M => ?_
    replace M : Mem ⟨w, []⟩ [⟨g1, .cells (av 4 (ls [.bool (ev), .int .u64 eh, .int .u64 el, .int .u16 ep])) 28⟩, ⟨g2, .cells (av 1 (ls [.int .u8 4])) 5⟩] u3 := M
    refine nT ?_
    refine ⟨(M.drop (.cons_cons _ (.cons _ (.slnil)))), ?_⟩
    exact hA _ _ _ _ (s1 _ _ g2 _ (by kernel_rfl) (by kernel_rfl) M)
   ·skip
    refine pC M 28 61 #[.int .u32 (cv .u32 el)] (.string (be4 (cv .u64 (cv .u32 el)))) (fun w M => c_U32 (cv .u32 el) w M.laid) fun u3 M => ?_
    refine nT ?_
    refine ⟨M, ?_⟩
    exact hA _ _ _ _ (s2 _ _  _ (by kernel_rfl) (by kernel_rfl) M)
  exact s0 _ _  _ (by kernel_rfl) (by kernel_rfl) M
set_option maxRecDepth 100000 in
set_option maxHeartbeats 4000000 in
set_option linter.unusedSimpArgs false in
theorem c_bytesOf (o : Int) (v : Vl) (hz : v.t.size ≤ 200000) (w : World) (hL : Laid w)  :
  Calls Try.prog 41 #[.int .u16 o, .agg (av 6 (ls [.int .u64 v.n, .string v.t, .bool (v.v), .int .u64 v.h, .int .u64 v.l, .int .u16 v.p]))] w fun r w' => r = .returned (.string (byF o v)) ∧ Below w.heap.size w w' := by
 go_enter Try.func41, Try.ntmps41
 have M := Mem.start hL
 refine sR ?_
 refine pN M 3 (.cells (av 6 (ls [.int .u64 v.n, .string v.t, .bool (v.v), .int .u64 v.h, .int .u64 v.l, .int .u16 v.p])) 86) fun g1 u1 M => ?_
 replace M : Mem ⟨w, []⟩ [⟨g1, .cells (av 6 (ls [.int .u64 v.n, .string v.t, .bool (v.v), .int .u64 v.h, .int .u64 v.l, .int .u16 v.p])) 86⟩] u1 := M
 refine pV 4 (.string ⟨#[]⟩) ?_
 refine nT ?_
 refine wp_seq ?_
 refine sR ?_
 refine pV 7 (.int .u16 o) ?_
 refine nT ?_
 refine wp_block ?_
 refine wp_seq ?_
 refine sR ?_
 by_cases c0 : o = 4
 ·skip
  refine pH 9 (.bool true) (dTz (o = 4) (c0)) ?_
  refine pV 8 (.bool true) ?_
  refine nT ?_
  refine wp_cond_true (by kernel_rfl) ?_
  refine wp_skip ?_
  refine au_then ?_
  refine wp_cond_true (by kernel_rfl) ?_
  refine sR ?_
  refine pV 11 (.pointer (some ⟨g1, 0, none⟩)) ?_
  refine pEz M 12 g1 0 (.int .u64 v.n) (fun w M => M.cell 0 rfl (by decide) rfl) ?_
  refine pV 13 (.int .u32 (cv .u32 v.n)) ?_
  refine pC M 14 61 #[.int .u32 (cv .u32 v.n)] (.string (be4 (cv .u64 (cv .u32 v.n)))) (fun w M => c_U32 (cv .u32 v.n) w M.laid) fun u2 M => ?_
  refine pV 4 (.string (be4 (cv .u64 (cv .u32 v.n)))) ?_
  refine nT ?_
  refine wp_ret ?_
  refine au_block_ret ?_
  refine au_then_ret ?_
  have e0 : (byF o v) = (be4 (cv .u64 (cv .u32 v.n))) := by simp only [byF, if_pos c0]
  exact bodyPost_ret (v := .string (be4 (cv .u64 (cv .u32 v.n)))) (results_tmp1 Try.results41 _ _ _ (by kernel_rfl)) (by kernel_rfl) ⟨by rw [e0], below_grown M.old⟩
 ·skip
  refine pH 9 (.bool false) (dF (o = 4) (c0)) ?_
  refine pV 8 (.bool false) ?_
  refine nT ?_
  refine wp_cond_false (by kernel_rfl) ?_
  refine rg_lit ?_
  by_cases c1 : o = 8
  ·skip
   refine pH 10 (.bool true) (dTz (o = 8) (c1)) ?_
   refine pV 8 (.bool true) ?_
   refine nT ?_
   refine wp_cond_true (by kernel_rfl) ?_
   refine sR ?_
   refine pV 11 (.pointer (some ⟨g1, 0, none⟩)) ?_
   refine pEz M 12 g1 0 (.int .u64 v.n) (fun w M => M.cell 0 rfl (by decide) rfl) ?_
   refine pV 13 (.int .u32 (cv .u32 v.n)) ?_
   refine pC M 14 61 #[.int .u32 (cv .u32 v.n)] (.string (be4 (cv .u64 (cv .u32 v.n)))) (fun w M => c_U32 (cv .u32 v.n) w M.laid) fun u2 M => ?_
   refine pV 4 (.string (be4 (cv .u64 (cv .u32 v.n)))) ?_
   refine nT ?_
   refine wp_ret ?_
   refine au_block_ret ?_
   refine au_then_ret ?_
   have e0 : (byF o v) = (be4 (cv .u64 (cv .u32 v.n))) := by simp only [byF, if_neg c0, if_pos c1]
   exact bodyPost_ret (v := .string (be4 (cv .u64 (cv .u32 v.n)))) (results_tmp1 Try.results41 _ _ _ (by kernel_rfl)) (by kernel_rfl) ⟨by rw [e0], below_grown M.old⟩
  ·skip
   refine pH 10 (.bool false) (dF (o = 8) (c1)) ?_
   refine pV 8 (.bool false) ?_
   refine nT ?_
   refine wp_cond_false (by kernel_rfl) ?_
   refine wp_seq ?_
   refine sR ?_
   by_cases c2 : o = 16
   ·skip
    refine pH 16 (.bool true) (dTz (o = 16) (c2)) ?_
    refine pV 15 (.bool true) ?_
    refine nT ?_
    refine wp_cond_true (by kernel_rfl) ?_
    refine wp_skip ?_
    refine au_then ?_
    refine wp_cond_true (by kernel_rfl) ?_
    refine sR ?_
    refine pV 19 (.pointer (some ⟨g1, 0, none⟩)) ?_
    refine pEz M 20 g1 0 (.int .u64 v.n) (fun w M => M.cell 0 rfl (by decide) rfl) ?_
    refine pC M 21 62 #[.int .u64 v.n] (.string (be8 v.n)) (fun w M => c_U64 v.n w M.laid) fun u2 M => ?_
    refine pV 4 (.string (be8 v.n)) ?_
    refine nT ?_
    refine wp_ret ?_
    refine au_block_ret ?_
    refine au_then_ret ?_
    have e0 : (byF o v) = (be8 v.n) := by simp only [byF, if_neg c0, if_neg c1, if_pos c2]
    exact bodyPost_ret (v := .string (be8 v.n)) (results_tmp1 Try.results41 _ _ _ (by kernel_rfl)) (by kernel_rfl) ⟨by rw [e0], below_grown M.old⟩
   ·skip
    refine pH 16 (.bool false) (dF (o = 16) (c2)) ?_
    refine pV 15 (.bool false) ?_
    refine nT ?_
    refine wp_cond_false (by kernel_rfl) ?_
    refine sR ?_
    by_cases c3 : o = 32
    ·skip
     refine pH 17 (.bool true) (dTz (o = 32) (c3)) ?_
     refine pV 15 (.bool true) ?_
     refine nT ?_
     refine wp_cond_true (by kernel_rfl) ?_
     refine wp_skip ?_
     refine au_then ?_
     refine wp_cond_true (by kernel_rfl) ?_
     refine sR ?_
     refine pV 19 (.pointer (some ⟨g1, 0, none⟩)) ?_
     refine pEz M 20 g1 0 (.int .u64 v.n) (fun w M => M.cell 0 rfl (by decide) rfl) ?_
     refine pC M 21 62 #[.int .u64 v.n] (.string (be8 v.n)) (fun w M => c_U64 v.n w M.laid) fun u2 M => ?_
     refine pV 4 (.string (be8 v.n)) ?_
     refine nT ?_
     refine wp_ret ?_
     refine au_block_ret ?_
     refine au_then_ret ?_
     have e0 : (byF o v) = (be8 v.n) := by simp only [byF, if_neg c0, if_neg c1, if_neg c2, if_pos c3]
     exact bodyPost_ret (v := .string (be8 v.n)) (results_tmp1 Try.results41 _ _ _ (by kernel_rfl)) (by kernel_rfl) ⟨by rw [e0], below_grown M.old⟩
    ·skip
     refine pH 17 (.bool false) (dF (o = 32) (c3)) ?_
     refine pV 15 (.bool false) ?_
     refine nT ?_
     refine wp_cond_false (by kernel_rfl) ?_
     refine rg_lit ?_
     by_cases c4 : o = 64
     ·skip
      refine pH 18 (.bool true) (dTz (o = 64) (c4)) ?_
      refine pV 15 (.bool true) ?_
      refine nT ?_
      refine wp_cond_true (by kernel_rfl) ?_
      refine sR ?_
      refine pV 19 (.pointer (some ⟨g1, 0, none⟩)) ?_
      refine pEz M 20 g1 0 (.int .u64 v.n) (fun w M => M.cell 0 rfl (by decide) rfl) ?_
      refine pC M 21 62 #[.int .u64 v.n] (.string (be8 v.n)) (fun w M => c_U64 v.n w M.laid) fun u2 M => ?_
      refine pV 4 (.string (be8 v.n)) ?_
      refine nT ?_
      refine wp_ret ?_
      refine au_block_ret ?_
      refine au_then_ret ?_
      have e0 : (byF o v) = (be8 v.n) := by simp only [byF, if_neg c0, if_neg c1, if_neg c2, if_neg c3, if_pos c4]
      exact bodyPost_ret (v := .string (be8 v.n)) (results_tmp1 Try.results41 _ _ _ (by kernel_rfl)) (by kernel_rfl) ⟨by rw [e0], below_grown M.old⟩
     ·skip
      refine pH 18 (.bool false) (dF (o = 64) (c4)) ?_
      refine pV 15 (.bool false) ?_
      refine nT ?_
      refine wp_cond_false (by kernel_rfl) ?_
      refine sR ?_
      by_cases c5 : o = 512
      ·skip
       refine pH 23 (.bool true) (dTz (o = 512) (c5)) ?_
       refine pV 22 (.bool true) ?_
       refine nT ?_
       refine wp_cond_true (by kernel_rfl) ?_
       refine sR ?_
       refine pV 24 (.pointer (some ⟨g1, 0, none⟩)) ?_
       refine pEz M 25 g1 0 (.int .u64 v.n) (fun w M => M.cell 0 rfl (by decide) rfl) ?_
       refine pV 26 (.int .u16 (cv .u16 v.n)) ?_
       refine pC M 27 63 #[.int .u16 (cv .u16 v.n)] (.string (be2 (cv .u64 (cv .u16 v.n)))) (fun w M => c_U16 (cv .u16 v.n) w M.laid) fun u2 M => ?_
       refine pV 4 (.string (be2 (cv .u64 (cv .u16 v.n)))) ?_
       refine nT ?_
       refine wp_ret ?_
       refine au_block_ret ?_
       refine au_then_ret ?_
       have e0 : (byF o v) = (be2 (cv .u64 (cv .u16 v.n))) := by simp only [byF, if_neg c0, if_neg c1, if_neg c2, if_neg c3, if_neg c4, if_pos c5]
       exact bodyPost_ret (v := .string (be2 (cv .u64 (cv .u16 v.n)))) (results_tmp1 Try.results41 _ _ _ (by kernel_rfl)) (by kernel_rfl) ⟨by rw [e0], below_grown M.old⟩
      ·skip
       refine pH 23 (.bool false) (dF (o = 512) (c5)) ?_
       refine pV 22 (.bool false) ?_
       refine nT ?_
       refine wp_cond_false (by kernel_rfl) ?_
       refine sR ?_
       by_cases c6 : o = 256
       ·skip
        refine pH 29 (.bool true) (dTz (o = 256) (c6)) ?_
        refine pV 28 (.bool true) ?_
        refine nT ?_
        refine wp_cond_true (by kernel_rfl) ?_
        refine sR ?_
        refine pV 30 (.pointer (some ⟨g1, 2, none⟩)) ?_
        refine pL M 31 0 rfl 2 4 (ls [.bool (v.v), .int .u64 v.h, .int .u64 v.l, .int .u16 v.p]) (part_ls _ 2 4 _ rfl) ?_
        refine pC M 32 64 #[.agg (av 4 (ls [.bool (v.v), .int .u64 v.h, .int .u64 v.l, .int .u16 v.p]))] (.string (enB v.v v.h v.l v.p)) (fun w M => c_endBytes v.v v.h v.l v.p w M.laid) fun u2 M => ?_
        refine pV 4 (.string (enB v.v v.h v.l v.p)) ?_
        refine nT ?_
        refine wp_ret ?_
        refine au_block_ret ?_
        refine au_then_ret ?_
        have e0 : (byF o v) = (enB v.v v.h v.l v.p) := by simp only [byF, if_neg c0, if_neg c1, if_neg c2, if_neg c3, if_neg c4, if_neg c5, if_pos c6]
        exact bodyPost_ret (v := .string (enB v.v v.h v.l v.p)) (results_tmp1 Try.results41 _ _ _ (by kernel_rfl)) (by kernel_rfl) ⟨by rw [e0], below_grown M.old⟩
       ·skip
        refine pH 29 (.bool false) (dF (o = 256) (c6)) ?_
        refine pV 28 (.bool false) ?_
        refine nT ?_
        refine wp_cond_false (by kernel_rfl) ?_
        refine wp_seq ?_
        refine sR ?_
        by_cases c7 : o = 1024
        ·skip
         refine pH 34 (.bool true) (dTz (o = 1024) (c7)) ?_
         refine pV 33 (.bool true) ?_
         refine nT ?_
         refine wp_cond_true (by kernel_rfl) ?_
         refine wp_skip ?_
         refine au_then ?_
         refine wp_cond_true (by kernel_rfl) ?_
         refine sR ?_
         refine pV 37 (.pointer (some ⟨g1, 1, none⟩)) ?_
         refine pEz M 38 g1 1 (.string v.t) (fun w M => M.cell 0 rfl (by decide) rfl) ?_
         refine pC M 39 65 #[.string v.t] (.tuple #[.string (wtS v.t), .int .i64 (wtE v.t)]) (fun w M => c_WText v.t (by omega) w M.laid) fun u2 M => ?_
         refine pV 36 (.tuple #[.string (wtS v.t), .int .i64 (wtE v.t)]) ?_
         refine pV 40 (.string (wtS v.t)) ?_
         refine pV 41 (.int .i64 (wtE v.t)) ?_
         refine pV 5 (.string (wtS v.t)) ?_
         refine pV 6 (.int .i64 (wtE v.t)) ?_
         refine nT ?_
         refine sR ?_
         refine pV 42 (.string (wtS v.t)) ?_
         refine pV 4 (.string (wtS v.t)) ?_
         refine nT ?_
         refine wp_ret ?_
         refine au_block_ret ?_
         refine au_then_ret ?_
         have e0 : (byF o v) = (wtS v.t) := by simp only [byF, if_neg c0, if_neg c1, if_neg c2, if_neg c3, if_neg c4, if_neg c5, if_neg c6, if_pos c7]
         exact bodyPost_ret (v := .string (wtS v.t)) (results_tmp1 Try.results41 _ _ _ (by kernel_rfl)) (by kernel_rfl) ⟨by rw [e0], below_grown M.old⟩
        ·skip
         refine pH 34 (.bool false) (dF (o = 1024) (c7)) ?_
         refine pV 33 (.bool false) ?_
         refine nT ?_
         refine wp_cond_false (by kernel_rfl) ?_
         refine rg_lit ?_
         by_cases c8 : o = 2048
         ·skip
          refine pH 35 (.bool true) (dTz (o = 2048) (c8)) ?_
          refine pV 33 (.bool true) ?_
          refine nT ?_
          refine wp_cond_true (by kernel_rfl) ?_
          refine sR ?_
          refine pV 37 (.pointer (some ⟨g1, 1, none⟩)) ?_
          refine pEz M 38 g1 1 (.string v.t) (fun w M => M.cell 0 rfl (by decide) rfl) ?_
          refine pC M 39 65 #[.string v.t] (.tuple #[.string (wtS v.t), .int .i64 (wtE v.t)]) (fun w M => c_WText v.t (by omega) w M.laid) fun u2 M => ?_
          refine pV 36 (.tuple #[.string (wtS v.t), .int .i64 (wtE v.t)]) ?_
          refine pV 40 (.string (wtS v.t)) ?_
          refine pV 41 (.int .i64 (wtE v.t)) ?_
          refine pV 5 (.string (wtS v.t)) ?_
          refine pV 6 (.int .i64 (wtE v.t)) ?_
          refine nT ?_
          refine sR ?_
          refine pV 42 (.string (wtS v.t)) ?_
          refine pV 4 (.string (wtS v.t)) ?_
          refine nT ?_
          refine wp_ret ?_
          refine au_block_ret ?_
          refine au_then_ret ?_
          have e0 : (byF o v) = (wtS v.t) := by simp only [byF, if_neg c0, if_neg c1, if_neg c2, if_neg c3, if_neg c4, if_neg c5, if_neg c6, if_neg c7, if_pos c8]
          exact bodyPost_ret (v := .string (wtS v.t)) (results_tmp1 Try.results41 _ _ _ (by kernel_rfl)) (by kernel_rfl) ⟨by rw [e0], below_grown M.old⟩
         ·skip
          refine pH 35 (.bool false) (dF (o = 2048) (c8)) ?_
          refine pV 33 (.bool false) ?_
          refine nT ?_
          refine wp_cond_false (by kernel_rfl) ?_
          refine wp_skip ?_
          refine au_block ?_
          refine au_then ?_
          refine sR ?_
          refine pV 43 (.pointer (some ⟨g1, 1, none⟩)) ?_
          refine pEz M 44 g1 1 (.string v.t) (fun w M => M.cell 0 rfl (by decide) rfl) ?_
          refine pV 4 (.string v.t) ?_
          refine nT ?_
          refine wp_ret ?_
          have e0 : (byF o v) = v.t := by simp only [byF, if_neg c0, if_neg c1, if_neg c2, if_neg c3, if_neg c4, if_neg c5, if_neg c6, if_neg c7, if_neg c8]
          exact bodyPost_ret (v := .string v.t) (results_tmp1 Try.results41 _ _ _ (by kernel_rfl)) (by kernel_rfl) ⟨by rw [e0], below_grown M.old⟩
set_option maxRecDepth 100000 in
set_option maxHeartbeats 4000000 in
set_option linter.unusedSimpArgs false in
theorem c_write (g : Nat) (h : Int) (x : ByteArray) (T : List Blk) (hWR : WR g h x T) (o : Int) (v : Vl) (hv : v.t.size ≤ 200000) (hz : x.size + v.t.size < 999000) (w : World) (hL : Laid w) (hT : ∀ b ∈ T, w.heap[b.g]? = some b.Z) (hn : (T.map Blk.g).Nodup) :
  Calls Try.prog 22 #[.pointer (some ⟨g, 0, none⟩), .int .u16 o, .agg (av 6 (ls [.int .u64 v.n, .string v.t, .bool (v.v), .int .u64 v.h, .int .u64 v.l, .int .u16 v.p]))] w fun e w' => e = .returned (.agg (av 6 (vlL v))) ∧ ∃ T', WR g h (wrF x h o v) T' ∧ OkT w w' T T' := by
 go_enter Try.func22, Try.ntmps22
 have M := Mem.start hL
 obtain ⟨gb, cap, Z, rfl, hs⟩ := hWR
 refine sR ?_
 refine pN M 5 (.cells (av 6 (ls [.int .u64 v.n, .string v.t, .bool (v.v), .int .u64 v.h, .int .u64 v.l, .int .u16 v.p])) 86) fun g1 u1 M => ?_
 replace M : Mem ⟨w, []⟩ [⟨g1, .cells (av 6 (ls [.int .u64 v.n, .string v.t, .bool (v.v), .int .u64 v.h, .int .u64 v.l, .int .u16 v.p])) 86⟩] u1 := M
 refine pN M 6 (.cells (av 6 (ls [.int .u64 0, .string ⟨#[]⟩, .bool false, .int .u64 0, .int .u64 0, .int .u16 0])) 86) fun g2 u2 M => ?_
 replace M : Mem ⟨w, []⟩ [⟨g1, .cells (av 6 (ls [.int .u64 v.n, .string v.t, .bool (v.v), .int .u64 v.h, .int .u64 v.l, .int .u16 v.p])) 86⟩, ⟨g2, .cells (av 6 (ls [.int .u64 0, .string ⟨#[]⟩, .bool false, .int .u64 0, .int .u64 0, .int .u16 0])) 86⟩] u2 := M
 refine pl_nil ?_
 have M := Mem.join (T := [⟨g, .cells (av 3 (ls [.int .u16 h, .pointer (some ⟨g, 1, none⟩), .slice (some ⟨gb, 0, none⟩) x.size cap])) 59⟩, ⟨gb, Z⟩]) M hT hn
 replace M : Mem ⟨w, [g, gb]⟩ [⟨g1, .cells (av 6 (ls [.int .u64 v.n, .string v.t, .bool (v.v), .int .u64 v.h, .int .u64 v.l, .int .u16 v.p])) 86⟩, ⟨g2, .cells (av 6 (ls [.int .u64 0, .string ⟨#[]⟩, .bool false, .int .u64 0, .int .u64 0, .int .u16 0])) 86⟩, ⟨g, .cells (av 3 (ls [.int .u16 h, .pointer (some ⟨g, 1, none⟩), .slice (some ⟨gb, 0, none⟩) x.size cap])) 59⟩, ⟨gb, Z⟩] u2 := M
 refine au_then ?_
 refine wp_seq ?_
 refine sR ?_
 refine pV 7 (.pointer (some ⟨g, 0, none⟩)) ?_
 refine pV 8 (.pointer (some ⟨g, 0, none⟩)) ?_
 refine pV 9 (.pointer (some ⟨g, 0, none⟩)) ?_
 refine pEz M 10 g 0 (.int .u16 h) (fun w M => M.cell 2 rfl (by decide) rfl) ?_
 refine pV 11 (.int .u16 o) ?_
 refine pV 12 (.int .u16 (yn h o)) ?_
 by_cases c0 : (yn h o) = 0
 ·skip
  refine pH 13 (.bool false) (nF ((yn h o) = 0) (c0)) ?_
  refine nT ?_
  refine wp_cond_false (by kernel_rfl) ?_
  refine wp_skip ?_
  refine au_then ?_
  refine sR ?_
  refine pAz M 21 0 6 (ls [.int .u64 v.n, .string v.t, .bool (v.v), .int .u64 v.h, .int .u64 v.l, .int .u16 v.p]) ?_
  refine pl_put M (want_no rfl) rfl 86 _ _ rfl 1 g2 0 (by kernel_rfl) 6 86 (ls [.int .u64 0, .string ⟨#[]⟩, .bool false, .int .u64 0, .int .u64 0, .int .u16 0]) rfl 6 (ls [.int .u64 v.n, .string v.t, .bool (v.v), .int .u64 v.h, .int .u64 v.l, .int .u16 v.p]) (ls [.int .u64 v.n, .string v.t, .bool (v.v), .int .u64 v.h, .int .u64 v.l, .int .u16 v.p]) (by kernel_rfl) inz86 (by decide) (one_ls _ rfl) (fun j hj => by rw [if_pos (by omega), Nat.sub_zero]) fun u3 M => ?_
  replace M : Mem ⟨w, [g, gb]⟩ [⟨g1, .cells (av 6 (ls [.int .u64 v.n, .string v.t, .bool (v.v), .int .u64 v.h, .int .u64 v.l, .int .u16 v.p])) 86⟩, ⟨g2, .cells (av 6 (ls [.int .u64 v.n, .string v.t, .bool (v.v), .int .u64 v.h, .int .u64 v.l, .int .u16 v.p])) 86⟩, ⟨g, .cells (av 3 (ls [.int .u16 h, .pointer (some ⟨g, 1, none⟩), .slice (some ⟨gb, 0, none⟩) x.size cap])) 59⟩, ⟨gb, Z⟩] u3 := M
  refine nT ?_
  refine wp_ret ?_
  exact bodyPost_ret (v := .agg (av 6 (ls [.int .u64 v.n, .string v.t, .bool (v.v), .int .u64 v.h, .int .u64 v.l, .int .u16 v.p]))) (results_cell_row Try.results22 _ _ g2 86 (av 6 (ls [.int .u64 v.n, .string v.t, .bool (v.v), .int .u64 v.h, .int .u64 v.l, .int .u16 v.p])) (0, 0) _ (by kernel_rfl) (M.get 1 rfl) Try.underlying86 rfl (by rw [av_size]; exact inz86)) (by kernel_rfl) ⟨rfl, _, by unfold wrF; rw [if_pos c0]; exact ⟨gb, cap, Z, rfl, hs⟩, Mem.okT (T := [⟨g, .cells (av 3 (ls [.int .u16 h, .pointer (some ⟨g, 1, none⟩), .slice (some ⟨gb, 0, none⟩) x.size cap])) 59⟩, ⟨gb, Z⟩]) (L := [⟨g1, .cells (av 6 (ls [.int .u64 v.n, .string v.t, .bool (v.v), .int .u64 v.h, .int .u64 v.l, .int .u16 v.p])) 86⟩, ⟨g2, .cells (av 6 (ls [.int .u64 v.n, .string v.t, .bool (v.v), .int .u64 v.h, .int .u64 v.l, .int .u16 v.p])) 86⟩]) M⟩
 ·skip
  refine pH 13 (.bool true) (nU ((yn h o) = 0) (c0)) ?_
  refine nT ?_
  refine wp_cond_true (by kernel_rfl) ?_
  refine rg_tail M 6 (by kernel_rfl) (by kernel_rfl) ?_
  simp only [List.take_succ_cons, List.take_zero]
  refine kV 14 (.pointer (some ⟨g, 0, none⟩)) ?_
  refine kV 15 (.pointer (some ⟨g, 0, none⟩)) ?_
  refine kV 16 (.pointer (some ⟨g, 1, none⟩)) ?_
  refine kV 17 (.int .u16 o) ?_
  refine kA M 18 0 6 (ls [.int .u64 v.n, .string v.t, .bool (v.v), .int .u64 v.h, .int .u64 v.l, .int .u16 v.p]) ?_
  refine kC M 19 41 #[.int .u16 o, .agg (av 6 (ls [.int .u64 v.n, .string v.t, .bool (v.v), .int .u64 v.h, .int .u64 v.l, .int .u16 v.p]))] (.string (byF o v)) (fun w M => c_bytesOf o v (by omega) w M.laid) ?_
  refine kl_nil fun u3 M => ?_
  replace M : Mem ⟨w, [g, gb]⟩ [⟨g1, .cells (av 6 (ls [.int .u64 v.n, .string v.t, .bool (v.v), .int .u64 v.h, .int .u64 v.l, .int .u16 v.p])) 86⟩, ⟨g2, .cells (av 6 (ls [.int .u64 0, .string ⟨#[]⟩, .bool false, .int .u64 0, .int .u64 0, .int .u16 0])) 86⟩, ⟨g, .cells (av 3 (ls [.int .u16 h, .pointer (some ⟨g, 1, none⟩), .slice (some ⟨gb, 0, none⟩) x.size cap])) 59⟩, ⟨gb, Z⟩] u3 := M
  refine pl_callT (L := [⟨g1, .cells (av 6 (ls [.int .u64 v.n, .string v.t, .bool (v.v), .int .u64 v.h, .int .u64 v.l, .int .u16 v.p])) 86⟩, ⟨g2, .cells (av 6 (ls [.int .u64 0, .string ⟨#[]⟩, .bool false, .int .u64 0, .int .u64 0, .int .u16 0])) 86⟩]) (T := [⟨g, .cells (av 3 (ls [.int .u16 h, .pointer (some ⟨g, 1, none⟩), .slice (some ⟨gb, 0, none⟩) x.size cap])) 59⟩, ⟨gb, Z⟩]) M (want_no rfl) (some 20) rfl 40 #[.pointer (some ⟨g, 1, none⟩), .string (byF o v)] (.tuple #[.int .i64 ((byF o v).size : Int), .nilIface]) (WR g h (x ++ (byF o v))) (fun _ => by kernel_rfl) (fun w h1 h2 => c_wstr g h x _ ⟨gb, cap, Z, rfl, hs⟩ (byF o v) (by have := byF_le o v; omega) w trivial h1 h2) ?_
  intro T9 u4 hW9 M
  obtain ⟨g9, cap9, Z9, rfl, hs9⟩ := hW9
  replace M : Mem ⟨w, [g, gb]⟩ [⟨g1, .cells (av 6 (ls [.int .u64 v.n, .string v.t, .bool (v.v), .int .u64 v.h, .int .u64 v.l, .int .u16 v.p])) 86⟩, ⟨g2, .cells (av 6 (ls [.int .u64 0, .string ⟨#[]⟩, .bool false, .int .u64 0, .int .u64 0, .int .u16 0])) 86⟩, ⟨g, .cells (av 3 (ls [.int .u16 h, .pointer (some ⟨g, 1, none⟩), .slice (some ⟨g9, 0, none⟩) (x ++ (byF o v)).size cap9])) 59⟩, ⟨g9, Z9⟩] u4 := M
  refine nT ?_
  refine sR ?_
  refine pAz M 21 0 6 (ls [.int .u64 v.n, .string v.t, .bool (v.v), .int .u64 v.h, .int .u64 v.l, .int .u16 v.p]) ?_
  refine pl_put M (want_no rfl) rfl 86 _ _ rfl 1 g2 0 (by kernel_rfl) 6 86 (ls [.int .u64 0, .string ⟨#[]⟩, .bool false, .int .u64 0, .int .u64 0, .int .u16 0]) rfl 6 (ls [.int .u64 v.n, .string v.t, .bool (v.v), .int .u64 v.h, .int .u64 v.l, .int .u16 v.p]) (ls [.int .u64 v.n, .string v.t, .bool (v.v), .int .u64 v.h, .int .u64 v.l, .int .u16 v.p]) (by kernel_rfl) inz86 (by decide) (one_ls _ rfl) (fun j hj => by rw [if_pos (by omega), Nat.sub_zero]) fun u5 M => ?_
  replace M : Mem ⟨w, [g, gb]⟩ [⟨g1, .cells (av 6 (ls [.int .u64 v.n, .string v.t, .bool (v.v), .int .u64 v.h, .int .u64 v.l, .int .u16 v.p])) 86⟩, ⟨g2, .cells (av 6 (ls [.int .u64 v.n, .string v.t, .bool (v.v), .int .u64 v.h, .int .u64 v.l, .int .u16 v.p])) 86⟩, ⟨g, .cells (av 3 (ls [.int .u16 h, .pointer (some ⟨g, 1, none⟩), .slice (some ⟨g9, 0, none⟩) (x ++ (byF o v)).size cap9])) 59⟩, ⟨g9, Z9⟩] u5 := M
  refine nT ?_
  refine wp_ret ?_
  exact bodyPost_ret (v := .agg (av 6 (ls [.int .u64 v.n, .string v.t, .bool (v.v), .int .u64 v.h, .int .u64 v.l, .int .u16 v.p]))) (results_cell_row Try.results22 _ _ g2 86 (av 6 (ls [.int .u64 v.n, .string v.t, .bool (v.v), .int .u64 v.h, .int .u64 v.l, .int .u16 v.p])) (0, 0) _ (by kernel_rfl) (M.get 1 rfl) Try.underlying86 rfl (by rw [av_size]; exact inz86)) (by kernel_rfl) ⟨rfl, _, by unfold wrF; rw [if_neg c0]; exact ⟨g9, cap9, Z9, rfl, hs9⟩, Mem.okT (T := [⟨g, .cells (av 3 (ls [.int .u16 h, .pointer (some ⟨g, 1, none⟩), .slice (some ⟨gb, 0, none⟩) x.size cap])) 59⟩, ⟨gb, Z⟩]) (L := [⟨g1, .cells (av 6 (ls [.int .u64 v.n, .string v.t, .bool (v.v), .int .u64 v.h, .int .u64 v.l, .int .u16 v.p])) 86⟩, ⟨g2, .cells (av 6 (ls [.int .u64 v.n, .string v.t, .bool (v.v), .int .u64 v.h, .int .u64 v.l, .int .u16 v.p])) 86⟩]) M⟩
theorem st_wr (g : Nat) (h : Int) (m : Mg) (hm : smM m) : ∀ k, k < 13 → ∀ T w, WR g h (wrS m h k) T → (∀ b ∈ T, w.heap[b.g]? = some b.Z) → (T.map Blk.g).Nodup → Calls Try.prog 22 #[.pointer (some ⟨g, 0, none⟩), .int .u16 (bitV k), .agg (av 6 (vlL (inV m k)))] w fun e w' => e = .returned (.agg (av 6 (vlL (inV m k)))) ∧ ∃ T', WR g h (wrS m h (k + 1)) T' ∧ OkT w w' T T' := by
 intro k hk T w hW h1 h2
 have a1 := inV_le hm k
 have a2 := wrS_le hm h k
 exact c_write g h (wrS m h k) T hW (bitV k) (inV m k) (by omega) (by omega) w trivial h1 h2
set_option maxRecDepth 100000 in
set_option maxHeartbeats 4000000 in
set_option linter.unusedSimpArgs false in
theorem c_writerOf (t : Int) (ht : 0 ≤ t ∧ t < 256) (w : World) (hL : Laid w)  :
  Calls Try.prog 20 #[.int .u8 t] w fun e w' => ∃ g k Z Y, e = .returned (.pointer (some ⟨g, 0, none⟩)) ∧ WR g (shP t) (bs [t]) [⟨g, Z⟩, ⟨k, Y⟩] ∧ w.heap.size ≤ g ∧ w.heap.size ≤ k ∧ g ≠ k ∧ w'.heap[g]? = some Z ∧ w'.heap[k]? = some Y ∧ Below w.heap.size w w' := by
 go_enter Try.func20, Try.ntmps20
 have M := Mem.start hL
 refine sR ?_
 refine pV 2 (.pointer none) ?_
 refine nT ?_
 refine sR ?_
 refine pV 4 (.agg (av 3 (ls [.int .u16 0, .pointer none, .slice none 0 0]))) ?_
 refine pN M 5 (.cells (av 3 (ls [.int .u16 0, .pointer none, .slice none 0 0])) 59) fun g1 u1 M => ?_
 replace M : Mem ⟨w, []⟩ [⟨g1, .cells (av 3 (ls [.int .u16 0, .pointer none, .slice none 0 0])) 59⟩] u1 := M
 refine pV 3 (.pointer (some ⟨g1, 0, none⟩)) ?_
 refine nT ?_
 refine sR ?_
 refine pV 7 (.pointer (some ⟨g1, 0, none⟩)) ?_
 refine pV 8 (.int .u8 t) ?_
 refine pC M 9 26 #[.int .u8 t] (.tuple #[.string (nmP t), .int .u16 (shP t)]) (fun w M => c_shapeOf t w M.laid) fun u2 M => ?_
 refine pV 6 (.tuple #[.string (nmP t), .int .u16 (shP t)]) ?_
 refine pV 10 (.string (nmP t)) ?_
 refine pV 11 (.int .u16 (shP t)) ?_
 refine pV 12 (.pointer (some ⟨g1, 0, none⟩)) ?_
 refine pV 13 (.pointer (some ⟨g1, 0, none⟩)) ?_
 refine pP M 0 rfl 0 (.int .u16 (shP t)) (ls [.int .u16 (shP t), .pointer none, .slice none 0 0]) (by decide) (put_ls _ 0 _ _ rfl) fun u3 M => ?_
 replace M : Mem ⟨w, []⟩ [⟨g1, .cells (av 3 (ls [.int .u16 (shP t), .pointer none, .slice none 0 0])) 59⟩] u3 := M
 refine nT ?_
 refine sR ?_
 refine pV 14 (.pointer (some ⟨g1, 0, none⟩)) ?_
 refine pV 15 (.pointer (some ⟨g1, 0, none⟩)) ?_
 refine pV 16 (.pointer (some ⟨g1, 1, none⟩)) ?_
 refine pV 17 (.int .u8 t) ?_
 refine pl_callT (L := []) (T := [⟨g1, .cells (av 3 (ls [.int .u16 (shP t), .pointer none, .slice none 0 0])) 59⟩]) M (want_no rfl) (some 18) rfl 39 #[.pointer (some ⟨g1, 1, none⟩), .int .u8 t] (.nilIface) (WR g1 (shP t) (bs [t])) (fun _ => by kernel_rfl) (fun w h1 h2 => c_wbyte g1 (shP t) t ht w trivial (h1 _ (List.mem_singleton.2 rfl))) ?_
 intro T9 u4 hW9 M
 obtain ⟨g9, cap9, Z9, rfl, hs9⟩ := hW9
 replace M : Mem ⟨w, []⟩ [⟨g1, .cells (av 3 (ls [.int .u16 (shP t), .pointer (some ⟨g1, 1, none⟩), .slice (some ⟨g9, 0, none⟩) (bs [t]).size cap9])) 59⟩, ⟨g9, Z9⟩] u4 := M
 refine nT ?_
 refine sR ?_
 refine pV 19 (.pointer (some ⟨g1, 0, none⟩)) ?_
 refine pV 2 (.pointer (some ⟨g1, 0, none⟩)) ?_
 refine nT ?_
 refine wp_ret ?_
 exact bodyPost_ret (v := .pointer (some ⟨g1, 0, none⟩)) (results_tmp1 Try.results20 _ _ _ (by kernel_rfl)) (by kernel_rfl) ⟨g1, g9, _, Z9, rfl, ⟨g9, cap9, Z9, rfl, hs9⟩, M.geAt 0 rfl, M.geAt 1 rfl, nodup_at M.nodup (i := 0) (j := 1) rfl rfl (by decide), M.get 0 rfl, M.get 1 rfl, below_grown M.old⟩
set_option maxRecDepth 100000 in
set_option maxHeartbeats 4000000 in
set_option linter.unusedSimpArgs false in
theorem c_Encode (m : Mg) (ht : 0 ≤ m.ty ∧ m.ty < 256) (hm : smM m) (w : World) (hL : Laid w)  :
  Calls Try.prog 10 #[.agg (av 17 (ls [.int .u8 m.ty, .string m.fr, .string m.tq, .int .u32 m.ix, .int .u32 m.pe, .int .u64 m.ct, .int .u64 m.ba, .int .u64 m.ve, .string m.tx, .bool (m.ev), .int .u64 m.eh, .int .u64 m.el, .int .u16 m.ep, .int .u16 m.co, .string m.tt, .string m.da, .string m.sg]))] w fun r w' => r = .returned (.tuple #[.string (eO m), .int .i64 (mE m)]) ∧ Below w.heap.size w w' := by
 go_enter Try.func10, Try.ntmps10
 have M := Mem.start hL
 have hz1 := wrS_le hm (shP m.ty) 13
 have hz2 := wrS_ge m (shP m.ty) 13
 refine sR ?_
 refine pN M 1 (.cells (av 17 (ls [.int .u8 m.ty, .string m.fr, .string m.tq, .int .u32 m.ix, .int .u32 m.pe, .int .u64 m.ct, .int .u64 m.ba, .int .u64 m.ve, .string m.tx, .bool (m.ev), .int .u64 m.eh, .int .u64 m.el, .int .u16 m.ep, .int .u16 m.co, .string m.tt, .string m.da, .string m.sg])) 30) fun g1 u1 M => ?_
 replace M : Mem ⟨w, []⟩ [⟨g1, .cells (av 17 (ls [.int .u8 m.ty, .string m.fr, .string m.tq, .int .u32 m.ix, .int .u32 m.pe, .int .u64 m.ct, .int .u64 m.ba, .int .u64 m.ve, .string m.tx, .bool (m.ev), .int .u64 m.eh, .int .u64 m.el, .int .u16 m.ep, .int .u16 m.co, .string m.tt, .string m.da, .string m.sg])) 30⟩] u1 := M
 refine pV 2 (.string ⟨#[]⟩) ?_
 refine pV 3 (.int .i64 0) ?_
 refine nT ?_
 refine wp_seq ?_
 refine sR ?_
 refine pAz M 6 0 17 (ls [.int .u8 m.ty, .string m.fr, .string m.tq, .int .u32 m.ix, .int .u32 m.pe, .int .u64 m.ct, .int .u64 m.ba, .int .u64 m.ve, .string m.tx, .bool (m.ev), .int .u64 m.eh, .int .u64 m.el, .int .u16 m.ep, .int .u16 m.co, .string m.tt, .string m.da, .string m.sg]) ?_
 refine pC M 7 14 #[.agg (av 17 (ls [.int .u8 m.ty, .string m.fr, .string m.tq, .int .u32 m.ix, .int .u32 m.pe, .int .u64 m.ct, .int .u64 m.ba, .int .u64 m.ve, .string m.tx, .bool (m.ev), .int .u64 m.eh, .int .u64 m.el, .int .u16 m.ep, .int .u16 m.co, .string m.tt, .string m.da, .string m.sg]))] (.int .i64 (mE m)) (fun w M => c_MMay m w M.laid) fun u2 M => ?_
 refine pV 4 (.int .i64 (mE m)) ?_
 refine nT ?_
 refine sR ?_
 refine pV 8 (.int .i64 (mE m)) ?_
 by_cases c0 : (mE m) = 0
 ·skip
  refine pH 9 (.bool false) (nF ((mE m) = 0) (c0)) ?_
  refine nT ?_
  refine wp_cond_false (by kernel_rfl) ?_
  refine wp_skip ?_
  refine au_then ?_
  refine sR ?_
  refine pV 11 (.pointer (some ⟨g1, 0, none⟩)) ?_
  refine pEz M 12 g1 0 (.int .u8 m.ty) (fun w M => M.cell 0 rfl (by decide) rfl) ?_
  refine pl_callm2 M (want_no rfl) (some 13) rfl 20 #[.int .u8 m.ty] (fun g => .pointer (some ⟨g, 0, none⟩)) (fun g k Z Y => WR g (shP m.ty) (bs [m.ty]) [⟨g, Z⟩, ⟨k, Y⟩]) (fun _ => by kernel_rfl) (fun w M => c_writerOf m.ty ht w M.laid) ?_
  intro g7 k7 Z7 Y7 u3 hW7 M
  replace M : Mem ⟨w, []⟩ [⟨g1, .cells (av 17 (ls [.int .u8 m.ty, .string m.fr, .string m.tq, .int .u32 m.ix, .int .u32 m.pe, .int .u64 m.ct, .int .u64 m.ba, .int .u64 m.ve, .string m.tx, .bool (m.ev), .int .u64 m.eh, .int .u64 m.el, .int .u16 m.ep, .int .u16 m.co, .string m.tt, .string m.da, .string m.sg])) 30⟩, ⟨g7, Z7⟩, ⟨k7, Y7⟩] u3 := M
  refine pV 5 (.pointer (some ⟨g7, 0, none⟩)) ?_
  refine nT ?_
  refine sR ?_
  refine pAz M 14 0 17 (ls [.int .u8 m.ty, .string m.fr, .string m.tq, .int .u32 m.ix, .int .u32 m.pe, .int .u64 m.ct, .int .u64 m.ba, .int .u64 m.ve, .string m.tx, .bool (m.ev), .int .u64 m.eh, .int .u64 m.el, .int .u16 m.ep, .int .u16 m.co, .string m.tt, .string m.da, .string m.sg]) ?_
  refine pV 15 (.pointer (some ⟨g7, 0, none⟩)) ?_
  refine pV 16 (.func (.func 22) #[.pointer (some ⟨g7, 0, none⟩)] #[]) ?_
  refine pl_callT (L := [⟨g1, .cells (av 17 (ls [.int .u8 m.ty, .string m.fr, .string m.tq, .int .u32 m.ix, .int .u32 m.pe, .int .u64 m.ct, .int .u64 m.ba, .int .u64 m.ve, .string m.tx, .bool (m.ev), .int .u64 m.eh, .int .u64 m.el, .int .u16 m.ep, .int .u16 m.co, .string m.tt, .string m.da, .string m.sg])) 30⟩]) (T := [⟨g7, Z7⟩, ⟨k7, Y7⟩]) M (want_no rfl) (some 17) rfl 21 #[.agg (av 17 (ls [.int .u8 m.ty, .string m.fr, .string m.tq, .int .u32 m.ix, .int .u32 m.pe, .int .u64 m.ct, .int .u64 m.ba, .int .u64 m.ve, .string m.tx, .bool (m.ev), .int .u64 m.eh, .int .u64 m.el, .int .u16 m.ep, .int .u16 m.co, .string m.tt, .string m.da, .string m.sg])), .func (.func 22) #[.pointer (some ⟨g7, 0, none⟩)] #[]] (.agg (av 17 (mgL (outM m (inV m))))) (WR g7 (shP m.ty) (wrS m (shP m.ty) 13)) (fun _ => by kernel_rfl) (fun w h1 h2 => c_through 22 _ m (inV m) _ (fun k => WR g7 (shP m.ty) (wrS m (shP m.ty) k)) fn22 hW7 (st_wr g7 (shP m.ty) m hm) w trivial h1 h2) ?_
  intro T9 u4 hW9 M
  obtain ⟨g9, cap9, Z9, rfl, hs9⟩ := hW9
  replace M : Mem ⟨w, []⟩ [⟨g1, .cells (av 17 (ls [.int .u8 m.ty, .string m.fr, .string m.tq, .int .u32 m.ix, .int .u32 m.pe, .int .u64 m.ct, .int .u64 m.ba, .int .u64 m.ve, .string m.tx, .bool (m.ev), .int .u64 m.eh, .int .u64 m.el, .int .u16 m.ep, .int .u16 m.co, .string m.tt, .string m.da, .string m.sg])) 30⟩, ⟨g7, .cells (av 3 (ls [.int .u16 (shP m.ty), .pointer (some ⟨g7, 1, none⟩), .slice (some ⟨g9, 0, none⟩) (wrS m (shP m.ty) 13).size cap9])) 59⟩, ⟨g9, Z9⟩] u4 := M
  refine nT ?_
  refine sR ?_
  refine pV 18 (.pointer (some ⟨g7, 0, none⟩)) ?_
  refine pV 19 (.pointer (some ⟨g7, 0, none⟩)) ?_
  refine pV 20 (.pointer (some ⟨g7, 1, none⟩)) ?_
  refine pl_callT (L := [⟨g1, .cells (av 17 (ls [.int .u8 m.ty, .string m.fr, .string m.tq, .int .u32 m.ix, .int .u32 m.pe, .int .u64 m.ct, .int .u64 m.ba, .int .u64 m.ve, .string m.tx, .bool (m.ev), .int .u64 m.eh, .int .u64 m.el, .int .u16 m.ep, .int .u16 m.co, .string m.tt, .string m.da, .string m.sg])) 30⟩]) (T := [⟨g7, .cells (av 3 (ls [.int .u16 (shP m.ty), .pointer (some ⟨g7, 1, none⟩), .slice (some ⟨g9, 0, none⟩) (wrS m (shP m.ty) 13).size cap9])) 59⟩, ⟨g9, Z9⟩]) M (want_no rfl) (some 21) rfl 23 #[.pointer (some ⟨g7, 1, none⟩)] (.string (wrS m (shP m.ty) 13)) (fun _ => True) (fun _ => by kernel_rfl) (fun w h1 h2 => c_bstr g7 (shP m.ty) (wrS m (shP m.ty) 13) _ ⟨g9, cap9, Z9, rfl, hs9⟩ (by omega) (by omega) w trivial h1 h2) ?_
  intro T8 u5 _ M
  replace M := M.drop (L' := [⟨g1, .cells (av 17 (ls [.int .u8 m.ty, .string m.fr, .string m.tq, .int .u32 m.ix, .int .u32 m.pe, .int .u64 m.ct, .int .u64 m.ba, .int .u64 m.ve, .string m.tx, .bool (m.ev), .int .u64 m.eh, .int .u64 m.el, .int .u16 m.ep, .int .u16 m.co, .string m.tt, .string m.da, .string m.sg])) 30⟩]) (List.sublist_append_left _ _)
  replace M : Mem ⟨w, []⟩ [⟨g1, .cells (av 17 (ls [.int .u8 m.ty, .string m.fr, .string m.tq, .int .u32 m.ix, .int .u32 m.pe, .int .u64 m.ct, .int .u64 m.ba, .int .u64 m.ve, .string m.tx, .bool (m.ev), .int .u64 m.eh, .int .u64 m.el, .int .u16 m.ep, .int .u16 m.co, .string m.tt, .string m.da, .string m.sg])) 30⟩] u5 := M
  refine pV 2 (.string (wrS m (shP m.ty) 13)) ?_
  refine pV 3 (.int .i64 0) ?_
  refine nT ?_
  refine wp_ret ?_
  have e0 : (eO m) = (wrS m (shP m.ty) 13) := by simp only [eO, if_pos c0]
  have e1 : (mE m) = 0 := c0
  exact bodyPost_ret (v := .tuple #[.string (wrS m (shP m.ty) 13), .int .i64 0]) (results_tmp2 Try.results10 _ _ _ _ (by kernel_rfl) (by kernel_rfl)) (by kernel_rfl) ⟨by rw [e0, e1], below_grown M.old⟩
 ·skip
  refine pH 9 (.bool true) (nU ((mE m) = 0) (c0)) ?_
  refine nT ?_
  refine wp_cond_true (by kernel_rfl) ?_
  refine sR ?_
  refine pV 10 (.int .i64 (mE m)) ?_
  refine pV 2 (.string ⟨#[]⟩) ?_
  refine pV 3 (.int .i64 (mE m)) ?_
  refine nT ?_
  refine wp_ret ?_
  refine au_then_ret ?_
  have e0 : (eO m) = ⟨#[]⟩ := by simp only [eO, if_neg c0]
  exact bodyPost_ret (v := .tuple #[.string ⟨#[]⟩, .int .i64 (mE m)]) (results_tmp2 Try.results10 _ _ _ _ (by kernel_rfl) (by kernel_rfl)) (by kernel_rfl) ⟨by rw [e0], below_grown M.old⟩
set_option maxRecDepth 100000 in
set_option maxHeartbeats 4000000 in
set_option linter.unusedSimpArgs false in
theorem c_Size (m : Mg) (ht : 0 ≤ m.ty ∧ m.ty < 256) (hm : smM m) (w : World) (hL : Laid w)  :
  Calls Try.prog 16 #[.agg (av 17 (ls [.int .u8 m.ty, .string m.fr, .string m.tq, .int .u32 m.ix, .int .u32 m.pe, .int .u64 m.ct, .int .u64 m.ba, .int .u64 m.ve, .string m.tx, .bool (m.ev), .int .u64 m.eh, .int .u64 m.el, .int .u16 m.ep, .int .u16 m.co, .string m.tt, .string m.da, .string m.sg]))] w fun r w' => r = .returned (.int .i64 ((eO m).size : Int)) ∧ Below w.heap.size w w' := by
 go_enter Try.func16, Try.ntmps16
 have M := Mem.start hL
 refine sR ?_
 refine pN M 1 (.cells (av 17 (ls [.int .u8 m.ty, .string m.fr, .string m.tq, .int .u32 m.ix, .int .u32 m.pe, .int .u64 m.ct, .int .u64 m.ba, .int .u64 m.ve, .string m.tx, .bool (m.ev), .int .u64 m.eh, .int .u64 m.el, .int .u16 m.ep, .int .u16 m.co, .string m.tt, .string m.da, .string m.sg])) 30) fun g1 u1 M => ?_
 replace M : Mem ⟨w, []⟩ [⟨g1, .cells (av 17 (ls [.int .u8 m.ty, .string m.fr, .string m.tq, .int .u32 m.ix, .int .u32 m.pe, .int .u64 m.ct, .int .u64 m.ba, .int .u64 m.ve, .string m.tx, .bool (m.ev), .int .u64 m.eh, .int .u64 m.el, .int .u16 m.ep, .int .u16 m.co, .string m.tt, .string m.da, .string m.sg])) 30⟩] u1 := M
 refine pV 2 (.int .i64 0) ?_
 refine nT ?_
 refine sR ?_
 refine pAz M 6 0 17 (ls [.int .u8 m.ty, .string m.fr, .string m.tq, .int .u32 m.ix, .int .u32 m.pe, .int .u64 m.ct, .int .u64 m.ba, .int .u64 m.ve, .string m.tx, .bool (m.ev), .int .u64 m.eh, .int .u64 m.el, .int .u16 m.ep, .int .u16 m.co, .string m.tt, .string m.da, .string m.sg]) ?_
 refine pC M 7 10 #[.agg (av 17 (ls [.int .u8 m.ty, .string m.fr, .string m.tq, .int .u32 m.ix, .int .u32 m.pe, .int .u64 m.ct, .int .u64 m.ba, .int .u64 m.ve, .string m.tx, .bool (m.ev), .int .u64 m.eh, .int .u64 m.el, .int .u16 m.ep, .int .u16 m.co, .string m.tt, .string m.da, .string m.sg]))] (.tuple #[.string (eO m), .int .i64 (mE m)]) (fun w M => c_Encode m ht hm w M.laid) fun u2 M => ?_
 refine pV 5 (.tuple #[.string (eO m), .int .i64 (mE m)]) ?_
 refine pV 8 (.string (eO m)) ?_
 refine pV 9 (.int .i64 (mE m)) ?_
 refine pV 3 (.string (eO m)) ?_
 refine pV 4 (.int .i64 (mE m)) ?_
 refine nT ?_
 refine sR ?_
 refine pV 10 (.string (eO m)) ?_
 refine pV 11 (.int .i64 ((eO m).size : Int)) ?_
 refine pV 2 (.int .i64 ((eO m).size : Int)) ?_
 refine nT ?_
 refine wp_ret ?_
 exact bodyPost_ret (v := .int .i64 ((eO m).size : Int)) (results_tmp1 Try.results16 _ _ _ (by kernel_rfl)) (by kernel_rfl) ⟨rfl, below_grown M.old⟩
end Go.Proofs.Ytbechjlkmajcoaa

namespace Go.Proofs.Ytbechjlkmajcoaa
open Go.RowKit
structure Rs where
 s : ByteArray
 f : Int
 e : Int
def fl (e f : Int) : Int := if e = 0 then f else e
def tkR (r : Rs) (n : Int) : Rs := ⟨tkS r.s r.f n, tkF r.s r.f n, r.e⟩
def rfR (r : Rs) (x : Int) : Rs := ⟨r.s, r.f, if fl r.e r.f = 0 then x else r.e⟩
theorem rfR_s (r : Rs) (x : Int) : (rfR r x).s = r.s := rfl
theorem rfR_f (r : Rs) (x : Int) : (rfR r x).f = r.f := rfl
def xE (r : Rs) : Int := cv .u8 (bnv (tkV r.s r.f 1))
def reM (r : Rs) : Rs := if xE r = 4 then tkR (tkR r 1) 4 else if xE r = 6 then tkR (tkR (tkR r 1) 8) 8 else rfR (tkR r 1) 8
def reS (r : Rs) : Rs := tkR (reM r) 2
def reV (r : Rs) : Bool := if xE r = 4 then false else if xE r = 6 then true else false
def reH (r : Rs) : Int := if xE r = 4 then 0 else if xE r = 6 then bnv (tkV (tkR r 1).s (tkR r 1).f 8) else 0
def reL (r : Rs) : Int := if xE r = 4 then cv .u64 (cv .u32 (bnv (tkV (tkR r 1).s (tkR r 1).f 4))) else if xE r = 6 then bnv (tkV (tkR (tkR r 1) 8).s (tkR (tkR r 1) 8).f 8) else 0
def reP (r : Rs) : Int := cv .u16 (bnv (tkV (reM r).s (reM r).f 2))
def rxN (r : Rs) : Int := cv .i64 (cv .u16 (bnv (tkV r.s r.f 2)))
def rtM (r : Rs) (n : Int) : Rs := if n < rxN r then rfR (tkR r 2) 4 else tkR r 2
def rtS (r : Rs) (n : Int) : Rs := tkR (rtM r n) (rxN r)
def rtV (r : Rs) (n : Int) : ByteArray := tkV (rtM r n).s (rtM r n).f (rxN r)
def rdS (h o : Int) (r : Rs) : Rs := if yn h o = 0 then r else if o = 4 then tkR r 4 else if o = 8 then tkR r 4 else if o = 16 then tkR r 8 else if o = 32 then tkR r 8 else if o = 64 then tkR r 8 else if o = 512 then tkR r 2 else if o = 256 then reS r else if o = 1024 then rtS r (moO o) else if o = 2048 then rtS r (moO o) else tkR r (szO o)
def vN (n : Int) : Vl := ⟨n, ⟨#[]⟩, false, 0, 0, 0⟩
def vT (t : ByteArray) : Vl := ⟨0, t, false, 0, 0, 0⟩
def rdV (h o : Int) (r : Rs) : Vl := if yn h o = 0 then vN 0 else if o = 4 then vN (cv .u64 (cv .u32 (bnv (tkV r.s r.f 4)))) else if o = 8 then vN (cv .u64 (cv .u32 (bnv (tkV r.s r.f 4)))) else if o = 16 then vN (bnv (tkV r.s r.f 8)) else if o = 32 then vN (bnv (tkV r.s r.f 8)) else if o = 64 then vN (bnv (tkV r.s r.f 8)) else if o = 512 then vN (cv .u64 (cv .u16 (bnv (tkV r.s r.f 2)))) else if o = 256 then ⟨0, ⟨#[]⟩, reV r, reH r, reL r, reP r⟩ else if o = 1024 then vT (rtV r (moO o)) else if o = 2048 then vT (rtV r (moO o)) else vT (tkV r.s r.f (szO o))
def rdK (h : Int) (r : Rs) : Nat → Rs
 | 0 => r
 | k + 1 => rdS h (bitV k) (rdK h r k)
def rdO (h : Int) (r : Rs) (k : Nat) : Vl := rdV h (bitV k) (rdK h r k)
def kdP (s : ByteArray) : Int := cv .u8 (bnv (tkV s 0 1))
def r0P (s : ByteArray) : Rs := if shP (kdP s) = 0 then rfR ⟨tkS s 0 1, tkF s 0 1, 0⟩ 150 else ⟨tkS s 0 1, tkF s 0 1, 0⟩
def nE (r : Rs) : Int := if fl r.e r.f = 0 then enF r.s r.f else fl r.e r.f
def m0 (t : Int) : Mg := ⟨t, ⟨#[]⟩, ⟨#[]⟩, 0, 0, 0, 0, 0, ⟨#[]⟩, false, 0, 0, 0, 0, ⟨#[]⟩, ⟨#[]⟩, ⟨#[]⟩⟩
def deE (s : ByteArray) : Int := nE (rdK (shP (kdP s)) (r0P s) 13)
def deM (s : ByteArray) : Mg := if deE s = 0 then outM (m0 (kdP s)) (rdO (shP (kdP s)) (r0P s)) else m0 0
set_option maxRecDepth 100000 in
set_option maxHeartbeats 4000000 in
set_option linter.unusedSimpArgs false in
theorem r_fault (gr g : Nat) (kd h : Int) (r_ : Rs) (w : World) (hL : Laid w)  (hg0 : w.heap[gr]? = some (.cells (av 4 (ls [.int .u8 kd, .int .u16 h, .pointer (some ⟨g, 0, none⟩), .int .i64 r_.e])) 73)) (hg1 : w.heap[g]? = some (.cells (av 3 (ls [.bool true, .string r_.s, .int .i64 r_.f])) 112)) (hne : gr ≠ g) :
  Calls Try.prog 58 #[.pointer (some ⟨gr, 0, none⟩)] w fun r w' => r = .returned (.int .i64 (fl r_.e r_.f)) ∧ Below w.heap.size w w' := by
 go_enter Try.func58, Try.ntmps58
 have M := Mem.startp2 hL hg0 hg1 hne
 refine sR ?_
 refine pV 2 (.int .i64 0) ?_
 refine nT ?_
 refine wp_seq ?_
 refine sR ?_
 refine pV 3 (.pointer (some ⟨gr, 0, none⟩)) ?_
 refine pV 4 (.pointer (some ⟨gr, 0, none⟩)) ?_
 refine pV 5 (.pointer (some ⟨gr, 3, none⟩)) ?_
 refine pEz M 6 gr 3 (.int .i64 r_.e) (fun w M => M.cell 0 rfl (by decide) rfl) ?_
 by_cases c0 : r_.e = 0
 ·skip
  refine pH 7 (.bool false) (nF (r_.e = 0) (c0)) ?_
  refine nT ?_
  refine wp_cond_false (by kernel_rfl) ?_
  refine wp_skip ?_
  refine au_then ?_
  refine sR ?_
  refine pV 12 (.pointer (some ⟨gr, 0, none⟩)) ?_
  refine pV 13 (.pointer (some ⟨gr, 0, none⟩)) ?_
  refine pV 14 (.pointer (some ⟨gr, 2, none⟩)) ?_
  refine pEz M 15 gr 2 (.pointer (some ⟨g, 0, none⟩)) (fun w M => M.cell 0 rfl (by decide) rfl) ?_
  refine pC M 16 73 #[.pointer (some ⟨g, 0, none⟩)] (.int .i64 r_.f) (fun w M => c_Fault g r_.s r_.f w M.laid (M.get 1 rfl)) fun u1 M => ?_
  refine pV 2 (.int .i64 r_.f) ?_
  refine nT ?_
  refine wp_ret ?_
  have e0 : (fl r_.e r_.f) = r_.f := by simp only [fl, if_pos c0]
  exact bodyPost_ret (v := .int .i64 r_.f) (results_tmp1 Try.results58 _ _ _ (by kernel_rfl)) (by kernel_rfl) ⟨by rw [e0], ro_below2 M.old hg0 (M.get 0 rfl) hg1 (M.get 1 rfl)⟩
 ·skip
  refine pH 7 (.bool true) (nU (r_.e = 0) (c0)) ?_
  refine nT ?_
  refine wp_cond_true (by kernel_rfl) ?_
  refine sR ?_
  refine pV 8 (.pointer (some ⟨gr, 0, none⟩)) ?_
  refine pV 9 (.pointer (some ⟨gr, 0, none⟩)) ?_
  refine pV 10 (.pointer (some ⟨gr, 3, none⟩)) ?_
  refine pEz M 11 gr 3 (.int .i64 r_.e) (fun w M => M.cell 0 rfl (by decide) rfl) ?_
  refine pV 2 (.int .i64 r_.e) ?_
  refine nT ?_
  refine wp_ret ?_
  refine au_then_ret ?_
  have e0 : (fl r_.e r_.f) = r_.e := by simp only [fl, if_neg c0]
  exact bodyPost_ret (v := .int .i64 r_.e) (results_tmp1 Try.results58 _ _ _ (by kernel_rfl)) (by kernel_rfl) ⟨by rw [e0], ro_below2 M.old hg0 (M.get 0 rfl) hg1 (M.get 1 rfl)⟩
set_option maxRecDepth 100000 in
set_option maxHeartbeats 4000000 in
set_option linter.unusedSimpArgs false in
theorem r_refT (gr g : Nat) (kd h : Int) (r_ : Rs) (x : Int) (w : World) (hL : Laid w)  (hg0 : w.heap[gr]? = some (.cells (av 4 (ls [.int .u8 kd, .int .u16 h, .pointer (some ⟨g, 0, none⟩), .int .i64 r_.e])) 73)) (hg1 : w.heap[g]? = some (.cells (av 3 (ls [.bool true, .string r_.s, .int .i64 r_.f])) 112)) (hne : gr ≠ g) :
  Calls Try.prog 51 #[.pointer (some ⟨gr, 0, none⟩), .bool true, .int .i64 x] w fun r w' => r = .returned (.tuple #[]) ∧ Grw w w' [gr, g] ∧ w'.heap[gr]? = some (.cells (av 4 (ls [.int .u8 kd, .int .u16 h, .pointer (some ⟨g, 0, none⟩), .int .i64 (rfR r_ x).e])) 73) ∧ w'.heap[g]? = some (.cells (av 3 (ls [.bool true, .string (rfR r_ x).s, .int .i64 (rfR r_ x).f])) 112) := by
 go_enter Try.func51, Try.ntmps51
 have M := Mem.startp2 hL hg0 hg1 hne
 refine sR ?_
 refine pV 6 (.bool true) ?_
 refine pV 7 (.bool true) ?_
 refine pl_val (want_on 1 true rfl 7 rfl (by kernel_rfl)) (some 8) rfl (.pointer (some ⟨gr, 0, none⟩)) (fun _ => by kernel_rfl) ?_
 refine pl_call M (want_on 1 true rfl 7 rfl (by kernel_rfl)) (some 9) rfl 58 #[.pointer (some ⟨gr, 0, none⟩)] (.int .i64 (fl r_.e r_.f)) (fun _ => by kernel_rfl) (fun w M => r_fault gr g kd h r_ w M.laid (M.get 0 rfl) (M.get 1 rfl) (nodup_at M.nodup (i := 0) (j := 1) rfl rfl (by decide))) fun u1 M => ?_
 by_cases c0 : (fl r_.e r_.f) = 0
 ·skip
  refine pl_val (want_on 1 true rfl 7 rfl (by kernel_rfl)) (some 10) rfl (.bool true) (fun w => Eq.trans (b := .ok (.value (.bool (decide ((fl r_.e r_.f) = 0)))) w) (by kernel_rfl) (by rw [decide_eq_true (c0)])) ?_
  refine pV 11 (.bool true) ?_
  refine nT ?_
  refine wp_cond_true (by kernel_rfl) ?_
  refine rg_lit ?_
  refine pV 12 (.pointer (some ⟨gr, 0, none⟩)) ?_
  refine pV 13 (.int .i64 x) ?_
  refine pV 14 (.pointer (some ⟨gr, 0, none⟩)) ?_
  refine pV 15 (.pointer (some ⟨gr, 3, none⟩)) ?_
  refine pP M 0 rfl 3 (.int .i64 x) (ls [.int .u8 kd, .int .u16 h, .pointer (some ⟨g, 0, none⟩), .int .i64 x]) (by decide) (put_ls _ 3 _ _ rfl) fun u2 M => ?_
  replace M : Mem ⟨w, [gr, g]⟩ [⟨gr, .cells (av 4 (ls [.int .u8 kd, .int .u16 h, .pointer (some ⟨g, 0, none⟩), .int .i64 x])) 73⟩, ⟨g, .cells (av 3 (ls [.bool true, .string r_.s, .int .i64 r_.f])) 112⟩] u2 := M
  refine pl_nil ?_
  have e0 : (rfR r_ x).e = x := by simp only [rfR, if_pos c0]
  have e1 : (rfR r_ x).s = r_.s := by simp only [rfR, if_pos c0]
  have e2 : (rfR r_ x).f = r_.f := by simp only [rfR, if_pos c0]
  exact bodyPost_end (v := .tuple #[]) (results_none Try.results51 _ _) (by kernel_rfl) ⟨rfl, M.old, by simpa only [e0, e1, e2] using M.get 0 rfl, by simpa only [e0, e1, e2] using M.get 1 rfl⟩
 ·skip
  refine pl_val (want_on 1 true rfl 7 rfl (by kernel_rfl)) (some 10) rfl (.bool false) (fun w => Eq.trans (b := .ok (.value (.bool (decide ((fl r_.e r_.f) = 0)))) w) (by kernel_rfl) (by rw [decide_eq_false (c0)])) ?_
  refine pV 11 (.bool false) ?_
  refine nT ?_
  refine wp_cond_false (by kernel_rfl) ?_
  refine wp_skip ?_
  have e0 : (rfR r_ x).e = r_.e := by simp only [rfR, if_neg c0]
  have e1 : (rfR r_ x).s = r_.s := by simp only [rfR, if_neg c0]
  have e2 : (rfR r_ x).f = r_.f := by simp only [rfR, if_neg c0]
  exact bodyPost_end (v := .tuple #[]) (results_none Try.results51 _ _) (by kernel_rfl) ⟨rfl, M.old, by simpa only [e0, e1, e2] using M.get 0 rfl, by simpa only [e0, e1, e2] using M.get 1 rfl⟩
set_option maxRecDepth 100000 in
set_option maxHeartbeats 4000000 in
set_option linter.unusedSimpArgs false in
theorem r_refF (gr g : Nat) (kd h : Int) (r_ : Rs) (x : Int) (w : World) (hL : Laid w)  (hg0 : w.heap[gr]? = some (.cells (av 4 (ls [.int .u8 kd, .int .u16 h, .pointer (some ⟨g, 0, none⟩), .int .i64 r_.e])) 73)) (hg1 : w.heap[g]? = some (.cells (av 3 (ls [.bool true, .string r_.s, .int .i64 r_.f])) 112)) (hne : gr ≠ g) :
  Calls Try.prog 51 #[.pointer (some ⟨gr, 0, none⟩), .bool false, .int .i64 x] w fun r w' => r = .returned (.tuple #[]) ∧ Below w.heap.size w w' := by
 go_enter Try.func51, Try.ntmps51
 have M := Mem.startp2 hL hg0 hg1 hne
 refine sR ?_
 refine pV 6 (.bool false) ?_
 refine pV 7 (.bool false) ?_
 refine pl_skip (want_off 1 true rfl 7 rfl (by kernel_rfl)) (some 8) rfl ?_
 refine pl_skip (want_off 1 true rfl 7 rfl (by kernel_rfl)) (some 9) rfl ?_
 refine pl_skip (want_off 1 true rfl 7 rfl (by kernel_rfl)) (some 10) rfl ?_
 refine pV 11 (.bool false) ?_
 refine nT ?_
 refine wp_cond_false (by kernel_rfl) ?_
 refine wp_skip ?_
 exact bodyPost_end (v := .tuple #[]) (results_none Try.results51 _ _) (by kernel_rfl) ⟨rfl, ro_below2 M.old hg0 (M.get 0 rfl) hg1 (M.get 1 rfl)⟩
set_option maxRecDepth 100000 in
set_option maxHeartbeats 4000000 in
set_option linter.unusedSimpArgs false in
theorem r_end (gr g : Nat) (kd h : Int) (r_ : Rs) (w : World) (hL : Laid w)  (hg0 : w.heap[gr]? = some (.cells (av 4 (ls [.int .u8 kd, .int .u16 h, .pointer (some ⟨g, 0, none⟩), .int .i64 r_.e])) 73)) (hg1 : w.heap[g]? = some (.cells (av 3 (ls [.bool true, .string r_.s, .int .i64 r_.f])) 112)) (hne : gr ≠ g) :
  Calls Try.prog 33 #[.pointer (some ⟨gr, 0, none⟩)] w fun r w' => r = .returned (.int .i64 (nE r_)) ∧ Below w.heap.size w w' := by
 go_enter Try.func33, Try.ntmps33
 have M := Mem.startp2 hL hg0 hg1 hne
 refine sR ?_
 refine pV 2 (.int .i64 0) ?_
 refine nT ?_
 refine wp_seq ?_
 refine sR ?_
 refine pV 4 (.pointer (some ⟨gr, 0, none⟩)) ?_
 refine pC M 5 58 #[.pointer (some ⟨gr, 0, none⟩)] (.int .i64 (fl r_.e r_.f)) (fun w M => r_fault gr g kd h r_ w M.laid (M.get 0 rfl) (M.get 1 rfl) (nodup_at M.nodup (i := 0) (j := 1) rfl rfl (by decide))) fun u1 M => ?_
 refine pV 3 (.int .i64 (fl r_.e r_.f)) ?_
 refine nT ?_
 refine sR ?_
 refine pV 6 (.int .i64 (fl r_.e r_.f)) ?_
 by_cases c0 : (fl r_.e r_.f) = 0
 ·skip
  refine pH 7 (.bool false) (nF ((fl r_.e r_.f) = 0) (c0)) ?_
  refine nT ?_
  refine wp_cond_false (by kernel_rfl) ?_
  refine wp_skip ?_
  refine au_then ?_
  refine sR ?_
  refine pV 9 (.pointer (some ⟨gr, 0, none⟩)) ?_
  refine pV 10 (.pointer (some ⟨gr, 0, none⟩)) ?_
  refine pV 11 (.pointer (some ⟨gr, 2, none⟩)) ?_
  refine pEz M 12 gr 2 (.pointer (some ⟨g, 0, none⟩)) (fun w M => M.cell 0 rfl (by decide) rfl) ?_
  refine pC M 13 59 #[.pointer (some ⟨g, 0, none⟩)] (.int .i64 (enF r_.s r_.f)) (fun w M => c_End g r_.s r_.f w M.laid (M.get 1 rfl)) fun u2 M => ?_
  refine pV 2 (.int .i64 (enF r_.s r_.f)) ?_
  refine nT ?_
  refine wp_ret ?_
  have e0 : (nE r_) = (enF r_.s r_.f) := by simp only [nE, if_pos c0]
  exact bodyPost_ret (v := .int .i64 (enF r_.s r_.f)) (results_tmp1 Try.results33 _ _ _ (by kernel_rfl)) (by kernel_rfl) ⟨by rw [e0], ro_below2 M.old hg0 (M.get 0 rfl) hg1 (M.get 1 rfl)⟩
 ·skip
  refine pH 7 (.bool true) (nU ((fl r_.e r_.f) = 0) (c0)) ?_
  refine nT ?_
  refine wp_cond_true (by kernel_rfl) ?_
  refine sR ?_
  refine pV 8 (.int .i64 (fl r_.e r_.f)) ?_
  refine pV 2 (.int .i64 (fl r_.e r_.f)) ?_
  refine nT ?_
  refine wp_ret ?_
  refine au_then_ret ?_
  have e0 : (nE r_) = (fl r_.e r_.f) := by simp only [nE, if_neg c0]
  exact bodyPost_ret (v := .int .i64 (fl r_.e r_.f)) (results_tmp1 Try.results33 _ _ _ (by kernel_rfl)) (by kernel_rfl) ⟨by rw [e0], ro_below2 M.old hg0 (M.get 0 rfl) hg1 (M.get 1 rfl)⟩
set_option maxRecDepth 100000 in
set_option maxHeartbeats 4000000 in
set_option linter.unusedSimpArgs false in
theorem r_readEnd (gr g : Nat) (kd h : Int) (r_ : Rs) (w : World) (hL : Laid w)  (hg0 : w.heap[gr]? = some (.cells (av 4 (ls [.int .u8 kd, .int .u16 h, .pointer (some ⟨g, 0, none⟩), .int .i64 r_.e])) 73)) (hg1 : w.heap[g]? = some (.cells (av 3 (ls [.bool true, .string r_.s, .int .i64 r_.f])) 112)) (hne : gr ≠ g) :
  Calls Try.prog 55 #[.pointer (some ⟨gr, 0, none⟩)] w fun r w' => r = .returned (.agg (av 4 (ls [.bool (reV r_), .int .u64 (reH r_), .int .u64 (reL r_), .int .u16 (reP r_)]))) ∧ Grw w w' [gr, g] ∧ w'.heap[gr]? = some (.cells (av 4 (ls [.int .u8 kd, .int .u16 h, .pointer (some ⟨g, 0, none⟩), .int .i64 (reS r_).e])) 73) ∧ w'.heap[g]? = some (.cells (av 3 (ls [.bool true, .string (reS r_).s, .int .i64 (reS r_).f])) 112) := by
 go_enter Try.func55, Try.ntmps55
 have M := Mem.startp2 hL hg0 hg1 hne
 refine sR ?_
 refine pN M 2 (.cells (av 4 (ls [.bool false, .int .u64 0, .int .u64 0, .int .u16 0])) 28) fun g1 u1 M => ?_
 replace M : Mem ⟨w, [gr, g]⟩ [⟨gr, .cells (av 4 (ls [.int .u8 kd, .int .u16 h, .pointer (some ⟨g, 0, none⟩), .int .i64 r_.e])) 73⟩, ⟨g, .cells (av 3 (ls [.bool true, .string r_.s, .int .i64 r_.f])) 112⟩, ⟨g1, .cells (av 4 (ls [.bool false, .int .u64 0, .int .u64 0, .int .u16 0])) 28⟩] u1 := M
 refine nT ?_
 refine sR ?_
 refine pN M 3 (.cells (av 4 (ls [.bool false, .int .u64 0, .int .u64 0, .int .u16 0])) 28) fun g2 u2 M => ?_
 replace M : Mem ⟨w, [gr, g]⟩ [⟨gr, .cells (av 4 (ls [.int .u8 kd, .int .u16 h, .pointer (some ⟨g, 0, none⟩), .int .i64 r_.e])) 73⟩, ⟨g, .cells (av 3 (ls [.bool true, .string r_.s, .int .i64 r_.f])) 112⟩, ⟨g1, .cells (av 4 (ls [.bool false, .int .u64 0, .int .u64 0, .int .u16 0])) 28⟩, ⟨g2, .cells (av 4 (ls [.bool false, .int .u64 0, .int .u64 0, .int .u16 0])) 28⟩] u2 := M
 refine nT ?_
 refine wp_seq ?_
 refine sR ?_
 refine pV 4 (.pointer (some ⟨gr, 0, none⟩)) ?_
 refine pV 5 (.pointer (some ⟨gr, 0, none⟩)) ?_
 refine pV 6 (.pointer (some ⟨gr, 2, none⟩)) ?_
 refine pEz M 7 gr 2 (.pointer (some ⟨g, 0, none⟩)) (fun w M => M.cell 0 rfl (by decide) rfl) ?_
 refine pl_callp M (want_no rfl) (some 8) rfl 50 #[.pointer (some ⟨g, 0, none⟩)] (.int .u8 (xE r_)) 1 g (.cells (av 3 (ls [.bool true, .string r_.s, .int .i64 r_.f])) 112) (.cells (av 3 (ls [.bool true, .string (tkS r_.s r_.f 1), .int .i64 (tkF r_.s r_.f 1)])) 112) rfl (fun _ => by kernel_rfl) (fun w M => r_U8 g r_.s r_.f w M.laid (M.get 1 rfl)) fun u3 M => ?_
 replace M : Mem ⟨w, [gr, g]⟩ [⟨gr, .cells (av 4 (ls [.int .u8 kd, .int .u16 h, .pointer (some ⟨g, 0, none⟩), .int .i64 r_.e])) 73⟩, ⟨g, .cells (av 3 (ls [.bool true, .string (tkS r_.s r_.f 1), .int .i64 (tkF r_.s r_.f 1)])) 112⟩, ⟨g1, .cells (av 4 (ls [.bool false, .int .u64 0, .int .u64 0, .int .u16 0])) 28⟩, ⟨g2, .cells (av 4 (ls [.bool false, .int .u64 0, .int .u64 0, .int .u16 0])) 28⟩] u3 := M
 refine nT ?_
 refine wp_block ?_
 refine sR ?_
 by_cases c0 : (xE r_) = 4
 ·skip
  refine pH 12 (.bool true) (dTz ((xE r_) = 4) (c0)) ?_
  refine pV 11 (.bool true) ?_
  refine nT ?_
  refine wp_cond_true (by kernel_rfl) ?_
  refine rg_lit ?_
  refine pV 13 (.pointer (some ⟨gr, 0, none⟩)) ?_
  refine pV 14 (.pointer (some ⟨gr, 0, none⟩)) ?_
  refine pV 15 (.pointer (some ⟨gr, 2, none⟩)) ?_
  refine pEz M 16 gr 2 (.pointer (some ⟨g, 0, none⟩)) (fun w M => M.cell 0 rfl (by decide) rfl) ?_
  refine pl_callp M (want_no rfl) (some 17) rfl 52 #[.pointer (some ⟨g, 0, none⟩)] (.int .u32 (cv .u32 (bnv (tkV (tkS r_.s r_.f 1) (tkF r_.s r_.f 1) 4)))) 1 g (.cells (av 3 (ls [.bool true, .string (tkS r_.s r_.f 1), .int .i64 (tkF r_.s r_.f 1)])) 112) (.cells (av 3 (ls [.bool true, .string (tkS (tkS r_.s r_.f 1) (tkF r_.s r_.f 1) 4), .int .i64 (tkF (tkS r_.s r_.f 1) (tkF r_.s r_.f 1) 4)])) 112) rfl (fun _ => by kernel_rfl) (fun w M => r_U32 g (tkS r_.s r_.f 1) (tkF r_.s r_.f 1) w M.laid (M.get 1 rfl)) fun u4 M => ?_
  replace M : Mem ⟨w, [gr, g]⟩ [⟨gr, .cells (av 4 (ls [.int .u8 kd, .int .u16 h, .pointer (some ⟨g, 0, none⟩), .int .i64 r_.e])) 73⟩, ⟨g, .cells (av 3 (ls [.bool true, .string (tkS (tkS r_.s r_.f 1) (tkF r_.s r_.f 1) 4), .int .i64 (tkF (tkS r_.s r_.f 1) (tkF r_.s r_.f 1) 4)])) 112⟩, ⟨g1, .cells (av 4 (ls [.bool false, .int .u64 0, .int .u64 0, .int .u16 0])) 28⟩, ⟨g2, .cells (av 4 (ls [.bool false, .int .u64 0, .int .u64 0, .int .u16 0])) 28⟩] u4 := M
  refine pV 18 (.int .u64 (cv .u64 (cv .u32 (bnv (tkV (tkS r_.s r_.f 1) (tkF r_.s r_.f 1) 4))))) ?_
  refine pV 19 (.pointer (some ⟨g2, 0, none⟩)) ?_
  refine pV 20 (.pointer (some ⟨g2, 2, none⟩)) ?_
  refine pP M 3 rfl 2 (.int .u64 (cv .u64 (cv .u32 (bnv (tkV (tkS r_.s r_.f 1) (tkF r_.s r_.f 1) 4))))) (ls [.bool false, .int .u64 0, .int .u64 (cv .u64 (cv .u32 (bnv (tkV (tkS r_.s r_.f 1) (tkF r_.s r_.f 1) 4)))), .int .u16 0]) (by decide) (put_ls _ 2 _ _ rfl) fun u5 M => ?_
  replace M : Mem ⟨w, [gr, g]⟩ [⟨gr, .cells (av 4 (ls [.int .u8 kd, .int .u16 h, .pointer (some ⟨g, 0, none⟩), .int .i64 r_.e])) 73⟩, ⟨g, .cells (av 3 (ls [.bool true, .string (tkS (tkS r_.s r_.f 1) (tkF r_.s r_.f 1) 4), .int .i64 (tkF (tkS r_.s r_.f 1) (tkF r_.s r_.f 1) 4)])) 112⟩, ⟨g1, .cells (av 4 (ls [.bool false, .int .u64 0, .int .u64 0, .int .u16 0])) 28⟩, ⟨g2, .cells (av 4 (ls [.bool false, .int .u64 0, .int .u64 (cv .u64 (cv .u32 (bnv (tkV (tkS r_.s r_.f 1) (tkF r_.s r_.f 1) 4)))), .int .u16 0])) 28⟩] u5 := M
  refine pl_nil ?_
  refine au_block ?_
  refine au_then ?_
  refine sR ?_
  refine pV 39 (.pointer (some ⟨gr, 0, none⟩)) ?_
  refine pV 40 (.pointer (some ⟨gr, 0, none⟩)) ?_
  refine pV 41 (.pointer (some ⟨gr, 2, none⟩)) ?_
  refine pEz M 42 gr 2 (.pointer (some ⟨g, 0, none⟩)) (fun w M => M.cell 0 rfl (by decide) rfl) ?_
  refine pl_callp M (want_no rfl) (some 43) rfl 54 #[.pointer (some ⟨g, 0, none⟩)] (.int .u16 (cv .u16 (bnv (tkV (tkS (tkS r_.s r_.f 1) (tkF r_.s r_.f 1) 4) (tkF (tkS r_.s r_.f 1) (tkF r_.s r_.f 1) 4) 2)))) 1 g (.cells (av 3 (ls [.bool true, .string (tkS (tkS r_.s r_.f 1) (tkF r_.s r_.f 1) 4), .int .i64 (tkF (tkS r_.s r_.f 1) (tkF r_.s r_.f 1) 4)])) 112) (.cells (av 3 (ls [.bool true, .string (tkS (tkS (tkS r_.s r_.f 1) (tkF r_.s r_.f 1) 4) (tkF (tkS r_.s r_.f 1) (tkF r_.s r_.f 1) 4) 2), .int .i64 (tkF (tkS (tkS r_.s r_.f 1) (tkF r_.s r_.f 1) 4) (tkF (tkS r_.s r_.f 1) (tkF r_.s r_.f 1) 4) 2)])) 112) rfl (fun _ => by kernel_rfl) (fun w M => r_U16 g (tkS (tkS r_.s r_.f 1) (tkF r_.s r_.f 1) 4) (tkF (tkS r_.s r_.f 1) (tkF r_.s r_.f 1) 4) w M.laid (M.get 1 rfl)) fun u6 M => ?_
  replace M : Mem ⟨w, [gr, g]⟩ [⟨gr, .cells (av 4 (ls [.int .u8 kd, .int .u16 h, .pointer (some ⟨g, 0, none⟩), .int .i64 r_.e])) 73⟩, ⟨g, .cells (av 3 (ls [.bool true, .string (tkS (tkS (tkS r_.s r_.f 1) (tkF r_.s r_.f 1) 4) (tkF (tkS r_.s r_.f 1) (tkF r_.s r_.f 1) 4) 2), .int .i64 (tkF (tkS (tkS r_.s r_.f 1) (tkF r_.s r_.f 1) 4) (tkF (tkS r_.s r_.f 1) (tkF r_.s r_.f 1) 4) 2)])) 112⟩, ⟨g1, .cells (av 4 (ls [.bool false, .int .u64 0, .int .u64 0, .int .u16 0])) 28⟩, ⟨g2, .cells (av 4 (ls [.bool false, .int .u64 0, .int .u64 (cv .u64 (cv .u32 (bnv (tkV (tkS r_.s r_.f 1) (tkF r_.s r_.f 1) 4)))), .int .u16 0])) 28⟩] u6 := M
  refine pV 44 (.pointer (some ⟨g2, 3, none⟩)) ?_
  refine pP M 3 rfl 3 (.int .u16 (cv .u16 (bnv (tkV (tkS (tkS r_.s r_.f 1) (tkF r_.s r_.f 1) 4) (tkF (tkS r_.s r_.f 1) (tkF r_.s r_.f 1) 4) 2)))) (ls [.bool false, .int .u64 0, .int .u64 (cv .u64 (cv .u32 (bnv (tkV (tkS r_.s r_.f 1) (tkF r_.s r_.f 1) 4)))), .int .u16 (cv .u16 (bnv (tkV (tkS (tkS r_.s r_.f 1) (tkF r_.s r_.f 1) 4) (tkF (tkS r_.s r_.f 1) (tkF r_.s r_.f 1) 4) 2)))]) (by decide) (put_ls _ 3 _ _ rfl) fun u7 M => ?_
  replace M : Mem ⟨w, [gr, g]⟩ [⟨gr, .cells (av 4 (ls [.int .u8 kd, .int .u16 h, .pointer (some ⟨g, 0, none⟩), .int .i64 r_.e])) 73⟩, ⟨g, .cells (av 3 (ls [.bool true, .string (tkS (tkS (tkS r_.s r_.f 1) (tkF r_.s r_.f 1) 4) (tkF (tkS r_.s r_.f 1) (tkF r_.s r_.f 1) 4) 2), .int .i64 (tkF (tkS (tkS r_.s r_.f 1) (tkF r_.s r_.f 1) 4) (tkF (tkS r_.s r_.f 1) (tkF r_.s r_.f 1) 4) 2)])) 112⟩, ⟨g1, .cells (av 4 (ls [.bool false, .int .u64 0, .int .u64 0, .int .u16 0])) 28⟩, ⟨g2, .cells (av 4 (ls [.bool false, .int .u64 0, .int .u64 (cv .u64 (cv .u32 (bnv (tkV (tkS r_.s r_.f 1) (tkF r_.s r_.f 1) 4)))), .int .u16 (cv .u16 (bnv (tkV (tkS (tkS r_.s r_.f 1) (tkF r_.s r_.f 1) 4) (tkF (tkS r_.s r_.f 1) (tkF r_.s r_.f 1) 4) 2)))])) 28⟩] u7 := M
  refine nT ?_
  refine sR ?_
  refine pAz M 45 3 4 (ls [.bool false, .int .u64 0, .int .u64 (cv .u64 (cv .u32 (bnv (tkV (tkS r_.s r_.f 1) (tkF r_.s r_.f 1) 4)))), .int .u16 (cv .u16 (bnv (tkV (tkS (tkS r_.s r_.f 1) (tkF r_.s r_.f 1) 4) (tkF (tkS r_.s r_.f 1) (tkF r_.s r_.f 1) 4) 2)))]) ?_
  refine pl_put M (want_no rfl) rfl 28 _ _ rfl 2 g1 0 (by kernel_rfl) 4 28 (ls [.bool false, .int .u64 0, .int .u64 0, .int .u16 0]) rfl 4 (ls [.bool false, .int .u64 0, .int .u64 (cv .u64 (cv .u32 (bnv (tkV (tkS r_.s r_.f 1) (tkF r_.s r_.f 1) 4)))), .int .u16 (cv .u16 (bnv (tkV (tkS (tkS r_.s r_.f 1) (tkF r_.s r_.f 1) 4) (tkF (tkS r_.s r_.f 1) (tkF r_.s r_.f 1) 4) 2)))]) (ls [.bool false, .int .u64 0, .int .u64 (cv .u64 (cv .u32 (bnv (tkV (tkS r_.s r_.f 1) (tkF r_.s r_.f 1) 4)))), .int .u16 (cv .u16 (bnv (tkV (tkS (tkS r_.s r_.f 1) (tkF r_.s r_.f 1) 4) (tkF (tkS r_.s r_.f 1) (tkF r_.s r_.f 1) 4) 2)))]) (by kernel_rfl) inz28 (by decide) (one_ls _ rfl) (fun j hj => by rw [if_pos (by omega), Nat.sub_zero]) fun u8 M => ?_
  replace M : Mem ⟨w, [gr, g]⟩ [⟨gr, .cells (av 4 (ls [.int .u8 kd, .int .u16 h, .pointer (some ⟨g, 0, none⟩), .int .i64 r_.e])) 73⟩, ⟨g, .cells (av 3 (ls [.bool true, .string (tkS (tkS (tkS r_.s r_.f 1) (tkF r_.s r_.f 1) 4) (tkF (tkS r_.s r_.f 1) (tkF r_.s r_.f 1) 4) 2), .int .i64 (tkF (tkS (tkS r_.s r_.f 1) (tkF r_.s r_.f 1) 4) (tkF (tkS r_.s r_.f 1) (tkF r_.s r_.f 1) 4) 2)])) 112⟩, ⟨g1, .cells (av 4 (ls [.bool false, .int .u64 0, .int .u64 (cv .u64 (cv .u32 (bnv (tkV (tkS r_.s r_.f 1) (tkF r_.s r_.f 1) 4)))), .int .u16 (cv .u16 (bnv (tkV (tkS (tkS r_.s r_.f 1) (tkF r_.s r_.f 1) 4) (tkF (tkS r_.s r_.f 1) (tkF r_.s r_.f 1) 4) 2)))])) 28⟩, ⟨g2, .cells (av 4 (ls [.bool false, .int .u64 0, .int .u64 (cv .u64 (cv .u32 (bnv (tkV (tkS r_.s r_.f 1) (tkF r_.s r_.f 1) 4)))), .int .u16 (cv .u16 (bnv (tkV (tkS (tkS r_.s r_.f 1) (tkF r_.s r_.f 1) 4) (tkF (tkS r_.s r_.f 1) (tkF r_.s r_.f 1) 4) 2)))])) 28⟩] u8 := M
  refine nT ?_
  refine wp_ret ?_
  have e0 : reV r_ = false := by simp only [reS, reM, reV, reH, reL, reP, tkR, rfR_s, rfR_f, if_pos c0]
  have e1 : (reH r_) = 0 := by simp only [reS, reM, reV, reH, reL, reP, tkR, rfR_s, rfR_f, if_pos c0]
  have e2 : (reL r_) = (cv .u64 (cv .u32 (bnv (tkV (tkS r_.s r_.f 1) (tkF r_.s r_.f 1) 4)))) := by simp only [reS, reM, reV, reH, reL, reP, tkR, rfR_s, rfR_f, if_pos c0]
  have e3 : (reP r_) = (cv .u16 (bnv (tkV (tkS (tkS r_.s r_.f 1) (tkF r_.s r_.f 1) 4) (tkF (tkS r_.s r_.f 1) (tkF r_.s r_.f 1) 4) 2))) := by simp only [reS, reM, reV, reH, reL, reP, tkR, rfR_s, rfR_f, if_pos c0]
  have e4 : (reS r_).e = r_.e := by simp only [reS, reM, reV, reH, reL, reP, tkR, rfR_s, rfR_f, if_pos c0]
  have e5 : (reS r_).s = (tkS (tkS (tkS r_.s r_.f 1) (tkF r_.s r_.f 1) 4) (tkF (tkS r_.s r_.f 1) (tkF r_.s r_.f 1) 4) 2) := by simp only [reS, reM, reV, reH, reL, reP, tkR, rfR_s, rfR_f, if_pos c0]
  have e6 : (reS r_).f = (tkF (tkS (tkS r_.s r_.f 1) (tkF r_.s r_.f 1) 4) (tkF (tkS r_.s r_.f 1) (tkF r_.s r_.f 1) 4) 2) := by simp only [reS, reM, reV, reH, reL, reP, tkR, rfR_s, rfR_f, if_pos c0]
  exact bodyPost_ret (v := .agg (av 4 (ls [.bool false, .int .u64 0, .int .u64 (cv .u64 (cv .u32 (bnv (tkV (tkS r_.s r_.f 1) (tkF r_.s r_.f 1) 4)))), .int .u16 (cv .u16 (bnv (tkV (tkS (tkS r_.s r_.f 1) (tkF r_.s r_.f 1) 4) (tkF (tkS r_.s r_.f 1) (tkF r_.s r_.f 1) 4) 2)))]))) (results_cell_row Try.results55 _ _ g1 28 (av 4 (ls [.bool false, .int .u64 0, .int .u64 (cv .u64 (cv .u32 (bnv (tkV (tkS r_.s r_.f 1) (tkF r_.s r_.f 1) 4)))), .int .u16 (cv .u16 (bnv (tkV (tkS (tkS r_.s r_.f 1) (tkF r_.s r_.f 1) 4) (tkF (tkS r_.s r_.f 1) (tkF r_.s r_.f 1) 4) 2)))])) (0, 0) _ (by kernel_rfl) (M.get 2 rfl) Try.underlying28 rfl (by rw [av_size]; exact inz28)) (by kernel_rfl) ⟨by rw [e0, e1, e2, e3], M.old, by simpa only [e0, e1, e2, e3, e4, e5, e6] using M.get 0 rfl, by simpa only [e0, e1, e2, e3, e4, e5, e6] using M.get 1 rfl⟩
 ·skip
  refine pH 12 (.bool false) (dF ((xE r_) = 4) (c0)) ?_
  refine pV 11 (.bool false) ?_
  refine nT ?_
  refine wp_cond_false (by kernel_rfl) ?_
  refine sR ?_
  by_cases c1 : (xE r_) = 6
  ·skip
   refine pH 22 (.bool true) (dTz ((xE r_) = 6) (c1)) ?_
   refine pV 21 (.bool true) ?_
   refine nT ?_
   refine wp_cond_true (by kernel_rfl) ?_
   refine sR ?_
   refine pV 23 (.pointer (some ⟨g2, 0, none⟩)) ?_
   refine pV 24 (.pointer (some ⟨g2, 0, none⟩)) ?_
   refine pP M 3 rfl 0 (.bool true) (ls [.bool true, .int .u64 0, .int .u64 0, .int .u16 0]) (by decide) (put_ls _ 0 _ _ rfl) fun u4 M => ?_
   replace M : Mem ⟨w, [gr, g]⟩ [⟨gr, .cells (av 4 (ls [.int .u8 kd, .int .u16 h, .pointer (some ⟨g, 0, none⟩), .int .i64 r_.e])) 73⟩, ⟨g, .cells (av 3 (ls [.bool true, .string (tkS r_.s r_.f 1), .int .i64 (tkF r_.s r_.f 1)])) 112⟩, ⟨g1, .cells (av 4 (ls [.bool false, .int .u64 0, .int .u64 0, .int .u16 0])) 28⟩, ⟨g2, .cells (av 4 (ls [.bool true, .int .u64 0, .int .u64 0, .int .u16 0])) 28⟩] u4 := M
   refine nT ?_
   refine sR ?_
   refine pV 25 (.pointer (some ⟨gr, 0, none⟩)) ?_
   refine pV 26 (.pointer (some ⟨gr, 0, none⟩)) ?_
   refine pV 27 (.pointer (some ⟨gr, 2, none⟩)) ?_
   refine pEz M 28 gr 2 (.pointer (some ⟨g, 0, none⟩)) (fun w M => M.cell 0 rfl (by decide) rfl) ?_
   refine pl_callp M (want_no rfl) (some 29) rfl 53 #[.pointer (some ⟨g, 0, none⟩)] (.int .u64 (bnv (tkV (tkS r_.s r_.f 1) (tkF r_.s r_.f 1) 8))) 1 g (.cells (av 3 (ls [.bool true, .string (tkS r_.s r_.f 1), .int .i64 (tkF r_.s r_.f 1)])) 112) (.cells (av 3 (ls [.bool true, .string (tkS (tkS r_.s r_.f 1) (tkF r_.s r_.f 1) 8), .int .i64 (tkF (tkS r_.s r_.f 1) (tkF r_.s r_.f 1) 8)])) 112) rfl (fun _ => by kernel_rfl) (fun w M => r_U64 g (tkS r_.s r_.f 1) (tkF r_.s r_.f 1) w M.laid (M.get 1 rfl)) fun u5 M => ?_
   replace M : Mem ⟨w, [gr, g]⟩ [⟨gr, .cells (av 4 (ls [.int .u8 kd, .int .u16 h, .pointer (some ⟨g, 0, none⟩), .int .i64 r_.e])) 73⟩, ⟨g, .cells (av 3 (ls [.bool true, .string (tkS (tkS r_.s r_.f 1) (tkF r_.s r_.f 1) 8), .int .i64 (tkF (tkS r_.s r_.f 1) (tkF r_.s r_.f 1) 8)])) 112⟩, ⟨g1, .cells (av 4 (ls [.bool false, .int .u64 0, .int .u64 0, .int .u16 0])) 28⟩, ⟨g2, .cells (av 4 (ls [.bool true, .int .u64 0, .int .u64 0, .int .u16 0])) 28⟩] u5 := M
   refine pV 30 (.pointer (some ⟨g2, 0, none⟩)) ?_
   refine pV 31 (.pointer (some ⟨g2, 1, none⟩)) ?_
   refine pP M 3 rfl 1 (.int .u64 (bnv (tkV (tkS r_.s r_.f 1) (tkF r_.s r_.f 1) 8))) (ls [.bool true, .int .u64 (bnv (tkV (tkS r_.s r_.f 1) (tkF r_.s r_.f 1) 8)), .int .u64 0, .int .u16 0]) (by decide) (put_ls _ 1 _ _ rfl) fun u6 M => ?_
   replace M : Mem ⟨w, [gr, g]⟩ [⟨gr, .cells (av 4 (ls [.int .u8 kd, .int .u16 h, .pointer (some ⟨g, 0, none⟩), .int .i64 r_.e])) 73⟩, ⟨g, .cells (av 3 (ls [.bool true, .string (tkS (tkS r_.s r_.f 1) (tkF r_.s r_.f 1) 8), .int .i64 (tkF (tkS r_.s r_.f 1) (tkF r_.s r_.f 1) 8)])) 112⟩, ⟨g1, .cells (av 4 (ls [.bool false, .int .u64 0, .int .u64 0, .int .u16 0])) 28⟩, ⟨g2, .cells (av 4 (ls [.bool true, .int .u64 (bnv (tkV (tkS r_.s r_.f 1) (tkF r_.s r_.f 1) 8)), .int .u64 0, .int .u16 0])) 28⟩] u6 := M
   refine nT ?_
   refine rg_lit ?_
   refine pV 32 (.pointer (some ⟨gr, 0, none⟩)) ?_
   refine pV 33 (.pointer (some ⟨gr, 0, none⟩)) ?_
   refine pV 34 (.pointer (some ⟨gr, 2, none⟩)) ?_
   refine pEz M 35 gr 2 (.pointer (some ⟨g, 0, none⟩)) (fun w M => M.cell 0 rfl (by decide) rfl) ?_
   refine pl_callp M (want_no rfl) (some 36) rfl 53 #[.pointer (some ⟨g, 0, none⟩)] (.int .u64 (bnv (tkV (tkS (tkS r_.s r_.f 1) (tkF r_.s r_.f 1) 8) (tkF (tkS r_.s r_.f 1) (tkF r_.s r_.f 1) 8) 8))) 1 g (.cells (av 3 (ls [.bool true, .string (tkS (tkS r_.s r_.f 1) (tkF r_.s r_.f 1) 8), .int .i64 (tkF (tkS r_.s r_.f 1) (tkF r_.s r_.f 1) 8)])) 112) (.cells (av 3 (ls [.bool true, .string (tkS (tkS (tkS r_.s r_.f 1) (tkF r_.s r_.f 1) 8) (tkF (tkS r_.s r_.f 1) (tkF r_.s r_.f 1) 8) 8), .int .i64 (tkF (tkS (tkS r_.s r_.f 1) (tkF r_.s r_.f 1) 8) (tkF (tkS r_.s r_.f 1) (tkF r_.s r_.f 1) 8) 8)])) 112) rfl (fun _ => by kernel_rfl) (fun w M => r_U64 g (tkS (tkS r_.s r_.f 1) (tkF r_.s r_.f 1) 8) (tkF (tkS r_.s r_.f 1) (tkF r_.s r_.f 1) 8) w M.laid (M.get 1 rfl)) fun u7 M => ?_
   replace M : Mem ⟨w, [gr, g]⟩ [⟨gr, .cells (av 4 (ls [.int .u8 kd, .int .u16 h, .pointer (some ⟨g, 0, none⟩), .int .i64 r_.e])) 73⟩, ⟨g, .cells (av 3 (ls [.bool true, .string (tkS (tkS (tkS r_.s r_.f 1) (tkF r_.s r_.f 1) 8) (tkF (tkS r_.s r_.f 1) (tkF r_.s r_.f 1) 8) 8), .int .i64 (tkF (tkS (tkS r_.s r_.f 1) (tkF r_.s r_.f 1) 8) (tkF (tkS r_.s r_.f 1) (tkF r_.s r_.f 1) 8) 8)])) 112⟩, ⟨g1, .cells (av 4 (ls [.bool false, .int .u64 0, .int .u64 0, .int .u16 0])) 28⟩, ⟨g2, .cells (av 4 (ls [.bool true, .int .u64 (bnv (tkV (tkS r_.s r_.f 1) (tkF r_.s r_.f 1) 8)), .int .u64 0, .int .u16 0])) 28⟩] u7 := M
   refine pV 37 (.pointer (some ⟨g2, 0, none⟩)) ?_
   refine pV 38 (.pointer (some ⟨g2, 2, none⟩)) ?_
   refine pP M 3 rfl 2 (.int .u64 (bnv (tkV (tkS (tkS r_.s r_.f 1) (tkF r_.s r_.f 1) 8) (tkF (tkS r_.s r_.f 1) (tkF r_.s r_.f 1) 8) 8))) (ls [.bool true, .int .u64 (bnv (tkV (tkS r_.s r_.f 1) (tkF r_.s r_.f 1) 8)), .int .u64 (bnv (tkV (tkS (tkS r_.s r_.f 1) (tkF r_.s r_.f 1) 8) (tkF (tkS r_.s r_.f 1) (tkF r_.s r_.f 1) 8) 8)), .int .u16 0]) (by decide) (put_ls _ 2 _ _ rfl) fun u8 M => ?_
   replace M : Mem ⟨w, [gr, g]⟩ [⟨gr, .cells (av 4 (ls [.int .u8 kd, .int .u16 h, .pointer (some ⟨g, 0, none⟩), .int .i64 r_.e])) 73⟩, ⟨g, .cells (av 3 (ls [.bool true, .string (tkS (tkS (tkS r_.s r_.f 1) (tkF r_.s r_.f 1) 8) (tkF (tkS r_.s r_.f 1) (tkF r_.s r_.f 1) 8) 8), .int .i64 (tkF (tkS (tkS r_.s r_.f 1) (tkF r_.s r_.f 1) 8) (tkF (tkS r_.s r_.f 1) (tkF r_.s r_.f 1) 8) 8)])) 112⟩, ⟨g1, .cells (av 4 (ls [.bool false, .int .u64 0, .int .u64 0, .int .u16 0])) 28⟩, ⟨g2, .cells (av 4 (ls [.bool true, .int .u64 (bnv (tkV (tkS r_.s r_.f 1) (tkF r_.s r_.f 1) 8)), .int .u64 (bnv (tkV (tkS (tkS r_.s r_.f 1) (tkF r_.s r_.f 1) 8) (tkF (tkS r_.s r_.f 1) (tkF r_.s r_.f 1) 8) 8)), .int .u16 0])) 28⟩] u8 := M
   refine pl_nil ?_
   refine au_block ?_
   refine au_then ?_
   refine sR ?_
   refine pV 39 (.pointer (some ⟨gr, 0, none⟩)) ?_
   refine pV 40 (.pointer (some ⟨gr, 0, none⟩)) ?_
   refine pV 41 (.pointer (some ⟨gr, 2, none⟩)) ?_
   refine pEz M 42 gr 2 (.pointer (some ⟨g, 0, none⟩)) (fun w M => M.cell 0 rfl (by decide) rfl) ?_
   refine pl_callp M (want_no rfl) (some 43) rfl 54 #[.pointer (some ⟨g, 0, none⟩)] (.int .u16 (cv .u16 (bnv (tkV (tkS (tkS (tkS r_.s r_.f 1) (tkF r_.s r_.f 1) 8) (tkF (tkS r_.s r_.f 1) (tkF r_.s r_.f 1) 8) 8) (tkF (tkS (tkS r_.s r_.f 1) (tkF r_.s r_.f 1) 8) (tkF (tkS r_.s r_.f 1) (tkF r_.s r_.f 1) 8) 8) 2)))) 1 g (.cells (av 3 (ls [.bool true, .string (tkS (tkS (tkS r_.s r_.f 1) (tkF r_.s r_.f 1) 8) (tkF (tkS r_.s r_.f 1) (tkF r_.s r_.f 1) 8) 8), .int .i64 (tkF (tkS (tkS r_.s r_.f 1) (tkF r_.s r_.f 1) 8) (tkF (tkS r_.s r_.f 1) (tkF r_.s r_.f 1) 8) 8)])) 112) (.cells (av 3 (ls [.bool true, .string (tkS (tkS (tkS (tkS r_.s r_.f 1) (tkF r_.s r_.f 1) 8) (tkF (tkS r_.s r_.f 1) (tkF r_.s r_.f 1) 8) 8) (tkF (tkS (tkS r_.s r_.f 1) (tkF r_.s r_.f 1) 8) (tkF (tkS r_.s r_.f 1) (tkF r_.s r_.f 1) 8) 8) 2), .int .i64 (tkF (tkS (tkS (tkS r_.s r_.f 1) (tkF r_.s r_.f 1) 8) (tkF (tkS r_.s r_.f 1) (tkF r_.s r_.f 1) 8) 8) (tkF (tkS (tkS r_.s r_.f 1) (tkF r_.s r_.f 1) 8) (tkF (tkS r_.s r_.f 1) (tkF r_.s r_.f 1) 8) 8) 2)])) 112) rfl (fun _ => by kernel_rfl) (fun w M => r_U16 g (tkS (tkS (tkS r_.s r_.f 1) (tkF r_.s r_.f 1) 8) (tkF (tkS r_.s r_.f 1) (tkF r_.s r_.f 1) 8) 8) (tkF (tkS (tkS r_.s r_.f 1) (tkF r_.s r_.f 1) 8) (tkF (tkS r_.s r_.f 1) (tkF r_.s r_.f 1) 8) 8) w M.laid (M.get 1 rfl)) fun u9 M => ?_
   replace M : Mem ⟨w, [gr, g]⟩ [⟨gr, .cells (av 4 (ls [.int .u8 kd, .int .u16 h, .pointer (some ⟨g, 0, none⟩), .int .i64 r_.e])) 73⟩, ⟨g, .cells (av 3 (ls [.bool true, .string (tkS (tkS (tkS (tkS r_.s r_.f 1) (tkF r_.s r_.f 1) 8) (tkF (tkS r_.s r_.f 1) (tkF r_.s r_.f 1) 8) 8) (tkF (tkS (tkS r_.s r_.f 1) (tkF r_.s r_.f 1) 8) (tkF (tkS r_.s r_.f 1) (tkF r_.s r_.f 1) 8) 8) 2), .int .i64 (tkF (tkS (tkS (tkS r_.s r_.f 1) (tkF r_.s r_.f 1) 8) (tkF (tkS r_.s r_.f 1) (tkF r_.s r_.f 1) 8) 8) (tkF (tkS (tkS r_.s r_.f 1) (tkF r_.s r_.f 1) 8) (tkF (tkS r_.s r_.f 1) (tkF r_.s r_.f 1) 8) 8) 2)])) 112⟩, ⟨g1, .cells (av 4 (ls [.bool false, .int .u64 0, .int .u64 0, .int .u16 0])) 28⟩, ⟨g2, .cells (av 4 (ls [.bool true, .int .u64 (bnv (tkV (tkS r_.s r_.f 1) (tkF r_.s r_.f 1) 8)), .int .u64 (bnv (tkV (tkS (tkS r_.s r_.f 1) (tkF r_.s r_.f 1) 8) (tkF (tkS r_.s r_.f 1) (tkF r_.s r_.f 1) 8) 8)), .int .u16 0])) 28⟩] u9 := M
   refine pV 44 (.pointer (some ⟨g2, 3, none⟩)) ?_
   refine pP M 3 rfl 3 (.int .u16 (cv .u16 (bnv (tkV (tkS (tkS (tkS r_.s r_.f 1) (tkF r_.s r_.f 1) 8) (tkF (tkS r_.s r_.f 1) (tkF r_.s r_.f 1) 8) 8) (tkF (tkS (tkS r_.s r_.f 1) (tkF r_.s r_.f 1) 8) (tkF (tkS r_.s r_.f 1) (tkF r_.s r_.f 1) 8) 8) 2)))) (ls [.bool true, .int .u64 (bnv (tkV (tkS r_.s r_.f 1) (tkF r_.s r_.f 1) 8)), .int .u64 (bnv (tkV (tkS (tkS r_.s r_.f 1) (tkF r_.s r_.f 1) 8) (tkF (tkS r_.s r_.f 1) (tkF r_.s r_.f 1) 8) 8)), .int .u16 (cv .u16 (bnv (tkV (tkS (tkS (tkS r_.s r_.f 1) (tkF r_.s r_.f 1) 8) (tkF (tkS r_.s r_.f 1) (tkF r_.s r_.f 1) 8) 8) (tkF (tkS (tkS r_.s r_.f 1) (tkF r_.s r_.f 1) 8) (tkF (tkS r_.s r_.f 1) (tkF r_.s r_.f 1) 8) 8) 2)))]) (by decide) (put_ls _ 3 _ _ rfl) fun u10 M => ?_
   replace M : Mem ⟨w, [gr, g]⟩ [⟨gr, .cells (av 4 (ls [.int .u8 kd, .int .u16 h, .pointer (some ⟨g, 0, none⟩), .int .i64 r_.e])) 73⟩, ⟨g, .cells (av 3 (ls [.bool true, .string (tkS (tkS (tkS (tkS r_.s r_.f 1) (tkF r_.s r_.f 1) 8) (tkF (tkS r_.s r_.f 1) (tkF r_.s r_.f 1) 8) 8) (tkF (tkS (tkS r_.s r_.f 1) (tkF r_.s r_.f 1) 8) (tkF (tkS r_.s r_.f 1) (tkF r_.s r_.f 1) 8) 8) 2), .int .i64 (tkF (tkS (tkS (tkS r_.s r_.f 1) (tkF r_.s r_.f 1) 8) (tkF (tkS r_.s r_.f 1) (tkF r_.s r_.f 1) 8) 8) (tkF (tkS (tkS r_.s r_.f 1) (tkF r_.s r_.f 1) 8) (tkF (tkS r_.s r_.f 1) (tkF r_.s r_.f 1) 8) 8) 2)])) 112⟩, ⟨g1, .cells (av 4 (ls [.bool false, .int .u64 0, .int .u64 0, .int .u16 0])) 28⟩, ⟨g2, .cells (av 4 (ls [.bool true, .int .u64 (bnv (tkV (tkS r_.s r_.f 1) (tkF r_.s r_.f 1) 8)), .int .u64 (bnv (tkV (tkS (tkS r_.s r_.f 1) (tkF r_.s r_.f 1) 8) (tkF (tkS r_.s r_.f 1) (tkF r_.s r_.f 1) 8) 8)), .int .u16 (cv .u16 (bnv (tkV (tkS (tkS (tkS r_.s r_.f 1) (tkF r_.s r_.f 1) 8) (tkF (tkS r_.s r_.f 1) (tkF r_.s r_.f 1) 8) 8) (tkF (tkS (tkS r_.s r_.f 1) (tkF r_.s r_.f 1) 8) (tkF (tkS r_.s r_.f 1) (tkF r_.s r_.f 1) 8) 8) 2)))])) 28⟩] u10 := M
   refine nT ?_
   refine sR ?_
   refine pAz M 45 3 4 (ls [.bool true, .int .u64 (bnv (tkV (tkS r_.s r_.f 1) (tkF r_.s r_.f 1) 8)), .int .u64 (bnv (tkV (tkS (tkS r_.s r_.f 1) (tkF r_.s r_.f 1) 8) (tkF (tkS r_.s r_.f 1) (tkF r_.s r_.f 1) 8) 8)), .int .u16 (cv .u16 (bnv (tkV (tkS (tkS (tkS r_.s r_.f 1) (tkF r_.s r_.f 1) 8) (tkF (tkS r_.s r_.f 1) (tkF r_.s r_.f 1) 8) 8) (tkF (tkS (tkS r_.s r_.f 1) (tkF r_.s r_.f 1) 8) (tkF (tkS r_.s r_.f 1) (tkF r_.s r_.f 1) 8) 8) 2)))]) ?_
   refine pl_put M (want_no rfl) rfl 28 _ _ rfl 2 g1 0 (by kernel_rfl) 4 28 (ls [.bool false, .int .u64 0, .int .u64 0, .int .u16 0]) rfl 4 (ls [.bool true, .int .u64 (bnv (tkV (tkS r_.s r_.f 1) (tkF r_.s r_.f 1) 8)), .int .u64 (bnv (tkV (tkS (tkS r_.s r_.f 1) (tkF r_.s r_.f 1) 8) (tkF (tkS r_.s r_.f 1) (tkF r_.s r_.f 1) 8) 8)), .int .u16 (cv .u16 (bnv (tkV (tkS (tkS (tkS r_.s r_.f 1) (tkF r_.s r_.f 1) 8) (tkF (tkS r_.s r_.f 1) (tkF r_.s r_.f 1) 8) 8) (tkF (tkS (tkS r_.s r_.f 1) (tkF r_.s r_.f 1) 8) (tkF (tkS r_.s r_.f 1) (tkF r_.s r_.f 1) 8) 8) 2)))]) (ls [.bool true, .int .u64 (bnv (tkV (tkS r_.s r_.f 1) (tkF r_.s r_.f 1) 8)), .int .u64 (bnv (tkV (tkS (tkS r_.s r_.f 1) (tkF r_.s r_.f 1) 8) (tkF (tkS r_.s r_.f 1) (tkF r_.s r_.f 1) 8) 8)), .int .u16 (cv .u16 (bnv (tkV (tkS (tkS (tkS r_.s r_.f 1) (tkF r_.s r_.f 1) 8) (tkF (tkS r_.s r_.f 1) (tkF r_.s r_.f 1) 8) 8) (tkF (tkS (tkS r_.s r_.f 1) (tkF r_.s r_.f 1) 8) (tkF (tkS r_.s r_.f 1) (tkF r_.s r_.f 1) 8) 8) 2)))]) (by kernel_rfl) inz28 (by decide) (one_ls _ rfl) (fun j hj => by rw [if_pos (by omega), Nat.sub_zero]) fun u11 M => ?_
   replace M : Mem ⟨w, [gr, g]⟩ [⟨gr, .cells (av 4 (ls [.int .u8 kd, .int .u16 h, .pointer (some ⟨g, 0, none⟩), .int .i64 r_.e])) 73⟩, ⟨g, .cells (av 3 (ls [.bool true, .string (tkS (tkS (tkS (tkS r_.s r_.f 1) (tkF r_.s r_.f 1) 8) (tkF (tkS r_.s r_.f 1) (tkF r_.s r_.f 1) 8) 8) (tkF (tkS (tkS r_.s r_.f 1) (tkF r_.s r_.f 1) 8) (tkF (tkS r_.s r_.f 1) (tkF r_.s r_.f 1) 8) 8) 2), .int .i64 (tkF (tkS (tkS (tkS r_.s r_.f 1) (tkF r_.s r_.f 1) 8) (tkF (tkS r_.s r_.f 1) (tkF r_.s r_.f 1) 8) 8) (tkF (tkS (tkS r_.s r_.f 1) (tkF r_.s r_.f 1) 8) (tkF (tkS r_.s r_.f 1) (tkF r_.s r_.f 1) 8) 8) 2)])) 112⟩, ⟨g1, .cells (av 4 (ls [.bool true, .int .u64 (bnv (tkV (tkS r_.s r_.f 1) (tkF r_.s r_.f 1) 8)), .int .u64 (bnv (tkV (tkS (tkS r_.s r_.f 1) (tkF r_.s r_.f 1) 8) (tkF (tkS r_.s r_.f 1) (tkF r_.s r_.f 1) 8) 8)), .int .u16 (cv .u16 (bnv (tkV (tkS (tkS (tkS r_.s r_.f 1) (tkF r_.s r_.f 1) 8) (tkF (tkS r_.s r_.f 1) (tkF r_.s r_.f 1) 8) 8) (tkF (tkS (tkS r_.s r_.f 1) (tkF r_.s r_.f 1) 8) (tkF (tkS r_.s r_.f 1) (tkF r_.s r_.f 1) 8) 8) 2)))])) 28⟩, ⟨g2, .cells (av 4 (ls [.bool true, .int .u64 (bnv (tkV (tkS r_.s r_.f 1) (tkF r_.s r_.f 1) 8)), .int .u64 (bnv (tkV (tkS (tkS r_.s r_.f 1) (tkF r_.s r_.f 1) 8) (tkF (tkS r_.s r_.f 1) (tkF r_.s r_.f 1) 8) 8)), .int .u16 (cv .u16 (bnv (tkV (tkS (tkS (tkS r_.s r_.f 1) (tkF r_.s r_.f 1) 8) (tkF (tkS r_.s r_.f 1) (tkF r_.s r_.f 1) 8) 8) (tkF (tkS (tkS r_.s r_.f 1) (tkF r_.s r_.f 1) 8) (tkF (tkS r_.s r_.f 1) (tkF r_.s r_.f 1) 8) 8) 2)))])) 28⟩] u11 := M
   refine nT ?_
   refine wp_ret ?_
   have e0 : reV r_ = true := by simp only [reS, reM, reV, reH, reL, reP, tkR, rfR_s, rfR_f, if_neg c0, if_pos c1]
   have e1 : (reH r_) = (bnv (tkV (tkS r_.s r_.f 1) (tkF r_.s r_.f 1) 8)) := by simp only [reS, reM, reV, reH, reL, reP, tkR, rfR_s, rfR_f, if_neg c0, if_pos c1]
   have e2 : (reL r_) = (bnv (tkV (tkS (tkS r_.s r_.f 1) (tkF r_.s r_.f 1) 8) (tkF (tkS r_.s r_.f 1) (tkF r_.s r_.f 1) 8) 8)) := by simp only [reS, reM, reV, reH, reL, reP, tkR, rfR_s, rfR_f, if_neg c0, if_pos c1]
   have e3 : (reP r_) = (cv .u16 (bnv (tkV (tkS (tkS (tkS r_.s r_.f 1) (tkF r_.s r_.f 1) 8) (tkF (tkS r_.s r_.f 1) (tkF r_.s r_.f 1) 8) 8) (tkF (tkS (tkS r_.s r_.f 1) (tkF r_.s r_.f 1) 8) (tkF (tkS r_.s r_.f 1) (tkF r_.s r_.f 1) 8) 8) 2))) := by simp only [reS, reM, reV, reH, reL, reP, tkR, rfR_s, rfR_f, if_neg c0, if_pos c1]
   have e4 : (reS r_).e = r_.e := by simp only [reS, reM, reV, reH, reL, reP, tkR, rfR_s, rfR_f, if_neg c0, if_pos c1]
   have e5 : (reS r_).s = (tkS (tkS (tkS (tkS r_.s r_.f 1) (tkF r_.s r_.f 1) 8) (tkF (tkS r_.s r_.f 1) (tkF r_.s r_.f 1) 8) 8) (tkF (tkS (tkS r_.s r_.f 1) (tkF r_.s r_.f 1) 8) (tkF (tkS r_.s r_.f 1) (tkF r_.s r_.f 1) 8) 8) 2) := by simp only [reS, reM, reV, reH, reL, reP, tkR, rfR_s, rfR_f, if_neg c0, if_pos c1]
   have e6 : (reS r_).f = (tkF (tkS (tkS (tkS r_.s r_.f 1) (tkF r_.s r_.f 1) 8) (tkF (tkS r_.s r_.f 1) (tkF r_.s r_.f 1) 8) 8) (tkF (tkS (tkS r_.s r_.f 1) (tkF r_.s r_.f 1) 8) (tkF (tkS r_.s r_.f 1) (tkF r_.s r_.f 1) 8) 8) 2) := by simp only [reS, reM, reV, reH, reL, reP, tkR, rfR_s, rfR_f, if_neg c0, if_pos c1]
   exact bodyPost_ret (v := .agg (av 4 (ls [.bool true, .int .u64 (bnv (tkV (tkS r_.s r_.f 1) (tkF r_.s r_.f 1) 8)), .int .u64 (bnv (tkV (tkS (tkS r_.s r_.f 1) (tkF r_.s r_.f 1) 8) (tkF (tkS r_.s r_.f 1) (tkF r_.s r_.f 1) 8) 8)), .int .u16 (cv .u16 (bnv (tkV (tkS (tkS (tkS r_.s r_.f 1) (tkF r_.s r_.f 1) 8) (tkF (tkS r_.s r_.f 1) (tkF r_.s r_.f 1) 8) 8) (tkF (tkS (tkS r_.s r_.f 1) (tkF r_.s r_.f 1) 8) (tkF (tkS r_.s r_.f 1) (tkF r_.s r_.f 1) 8) 8) 2)))]))) (results_cell_row Try.results55 _ _ g1 28 (av 4 (ls [.bool true, .int .u64 (bnv (tkV (tkS r_.s r_.f 1) (tkF r_.s r_.f 1) 8)), .int .u64 (bnv (tkV (tkS (tkS r_.s r_.f 1) (tkF r_.s r_.f 1) 8) (tkF (tkS r_.s r_.f 1) (tkF r_.s r_.f 1) 8) 8)), .int .u16 (cv .u16 (bnv (tkV (tkS (tkS (tkS r_.s r_.f 1) (tkF r_.s r_.f 1) 8) (tkF (tkS r_.s r_.f 1) (tkF r_.s r_.f 1) 8) 8) (tkF (tkS (tkS r_.s r_.f 1) (tkF r_.s r_.f 1) 8) (tkF (tkS r_.s r_.f 1) (tkF r_.s r_.f 1) 8) 8) 2)))])) (0, 0) _ (by kernel_rfl) (M.get 2 rfl) Try.underlying28 rfl (by rw [av_size]; exact inz28)) (by kernel_rfl) ⟨by rw [e0, e1, e2, e3], M.old, by simpa only [e0, e1, e2, e3, e4, e5, e6] using M.get 0 rfl, by simpa only [e0, e1, e2, e3, e4, e5, e6] using M.get 1 rfl⟩
  ·skip
   refine pH 22 (.bool false) (dF ((xE r_) = 6) (c1)) ?_
   refine pV 21 (.bool false) ?_
   refine nT ?_
   refine wp_cond_false (by kernel_rfl) ?_
   refine rg_lit ?_
   refine pV 9 (.pointer (some ⟨gr, 0, none⟩)) ?_
   refine pl_call2 M (want_no rfl) (some 10) rfl 51 #[.pointer (some ⟨gr, 0, none⟩), .bool true, .int .i64 8] (.tuple #[]) 0 1 gr g (.cells (av 4 (ls [.int .u8 kd, .int .u16 h, .pointer (some ⟨g, 0, none⟩), .int .i64 r_.e])) 73) (.cells (av 3 (ls [.bool true, .string (tkS r_.s r_.f 1), .int .i64 (tkF r_.s r_.f 1)])) 112) (.cells (av 4 (ls [.int .u8 kd, .int .u16 h, .pointer (some ⟨g, 0, none⟩), .int .i64 (rfR ⟨(tkS r_.s r_.f 1), (tkF r_.s r_.f 1), r_.e⟩ 8).e])) 73) (.cells (av 3 (ls [.bool true, .string (tkS r_.s r_.f 1), .int .i64 (tkF r_.s r_.f 1)])) 112) rfl rfl (fun _ => by kernel_rfl) (fun w M => r_refT gr g kd h ⟨(tkS r_.s r_.f 1), (tkF r_.s r_.f 1), r_.e⟩ 8 w M.laid (M.get 0 rfl) (M.get 1 rfl) (nodup_at M.nodup (i := 0) (j := 1) rfl rfl (by decide))) fun u4 M => ?_
   replace M : Mem ⟨w, [gr, g]⟩ [⟨gr, .cells (av 4 (ls [.int .u8 kd, .int .u16 h, .pointer (some ⟨g, 0, none⟩), .int .i64 (rfR ⟨(tkS r_.s r_.f 1), (tkF r_.s r_.f 1), r_.e⟩ 8).e])) 73⟩, ⟨g, .cells (av 3 (ls [.bool true, .string (tkS r_.s r_.f 1), .int .i64 (tkF r_.s r_.f 1)])) 112⟩, ⟨g1, .cells (av 4 (ls [.bool false, .int .u64 0, .int .u64 0, .int .u16 0])) 28⟩, ⟨g2, .cells (av 4 (ls [.bool false, .int .u64 0, .int .u64 0, .int .u16 0])) 28⟩] u4 := M
   refine pl_nil ?_
   refine au_block ?_
   refine au_then ?_
   refine sR ?_
   refine pV 39 (.pointer (some ⟨gr, 0, none⟩)) ?_
   refine pV 40 (.pointer (some ⟨gr, 0, none⟩)) ?_
   refine pV 41 (.pointer (some ⟨gr, 2, none⟩)) ?_
   refine pEz M 42 gr 2 (.pointer (some ⟨g, 0, none⟩)) (fun w M => M.cell 0 rfl (by decide) rfl) ?_
   refine pl_callp M (want_no rfl) (some 43) rfl 54 #[.pointer (some ⟨g, 0, none⟩)] (.int .u16 (cv .u16 (bnv (tkV (tkS r_.s r_.f 1) (tkF r_.s r_.f 1) 2)))) 1 g (.cells (av 3 (ls [.bool true, .string (tkS r_.s r_.f 1), .int .i64 (tkF r_.s r_.f 1)])) 112) (.cells (av 3 (ls [.bool true, .string (tkS (tkS r_.s r_.f 1) (tkF r_.s r_.f 1) 2), .int .i64 (tkF (tkS r_.s r_.f 1) (tkF r_.s r_.f 1) 2)])) 112) rfl (fun _ => by kernel_rfl) (fun w M => r_U16 g (tkS r_.s r_.f 1) (tkF r_.s r_.f 1) w M.laid (M.get 1 rfl)) fun u5 M => ?_
   replace M : Mem ⟨w, [gr, g]⟩ [⟨gr, .cells (av 4 (ls [.int .u8 kd, .int .u16 h, .pointer (some ⟨g, 0, none⟩), .int .i64 (rfR ⟨(tkS r_.s r_.f 1), (tkF r_.s r_.f 1), r_.e⟩ 8).e])) 73⟩, ⟨g, .cells (av 3 (ls [.bool true, .string (tkS (tkS r_.s r_.f 1) (tkF r_.s r_.f 1) 2), .int .i64 (tkF (tkS r_.s r_.f 1) (tkF r_.s r_.f 1) 2)])) 112⟩, ⟨g1, .cells (av 4 (ls [.bool false, .int .u64 0, .int .u64 0, .int .u16 0])) 28⟩, ⟨g2, .cells (av 4 (ls [.bool false, .int .u64 0, .int .u64 0, .int .u16 0])) 28⟩] u5 := M
   refine pV 44 (.pointer (some ⟨g2, 3, none⟩)) ?_
   refine pP M 3 rfl 3 (.int .u16 (cv .u16 (bnv (tkV (tkS r_.s r_.f 1) (tkF r_.s r_.f 1) 2)))) (ls [.bool false, .int .u64 0, .int .u64 0, .int .u16 (cv .u16 (bnv (tkV (tkS r_.s r_.f 1) (tkF r_.s r_.f 1) 2)))]) (by decide) (put_ls _ 3 _ _ rfl) fun u6 M => ?_
   replace M : Mem ⟨w, [gr, g]⟩ [⟨gr, .cells (av 4 (ls [.int .u8 kd, .int .u16 h, .pointer (some ⟨g, 0, none⟩), .int .i64 (rfR ⟨(tkS r_.s r_.f 1), (tkF r_.s r_.f 1), r_.e⟩ 8).e])) 73⟩, ⟨g, .cells (av 3 (ls [.bool true, .string (tkS (tkS r_.s r_.f 1) (tkF r_.s r_.f 1) 2), .int .i64 (tkF (tkS r_.s r_.f 1) (tkF r_.s r_.f 1) 2)])) 112⟩, ⟨g1, .cells (av 4 (ls [.bool false, .int .u64 0, .int .u64 0, .int .u16 0])) 28⟩, ⟨g2, .cells (av 4 (ls [.bool false, .int .u64 0, .int .u64 0, .int .u16 (cv .u16 (bnv (tkV (tkS r_.s r_.f 1) (tkF r_.s r_.f 1) 2)))])) 28⟩] u6 := M
   refine nT ?_
   refine sR ?_
   refine pAz M 45 3 4 (ls [.bool false, .int .u64 0, .int .u64 0, .int .u16 (cv .u16 (bnv (tkV (tkS r_.s r_.f 1) (tkF r_.s r_.f 1) 2)))]) ?_
   refine pl_put M (want_no rfl) rfl 28 _ _ rfl 2 g1 0 (by kernel_rfl) 4 28 (ls [.bool false, .int .u64 0, .int .u64 0, .int .u16 0]) rfl 4 (ls [.bool false, .int .u64 0, .int .u64 0, .int .u16 (cv .u16 (bnv (tkV (tkS r_.s r_.f 1) (tkF r_.s r_.f 1) 2)))]) (ls [.bool false, .int .u64 0, .int .u64 0, .int .u16 (cv .u16 (bnv (tkV (tkS r_.s r_.f 1) (tkF r_.s r_.f 1) 2)))]) (by kernel_rfl) inz28 (by decide) (one_ls _ rfl) (fun j hj => by rw [if_pos (by omega), Nat.sub_zero]) fun u7 M => ?_
   replace M : Mem ⟨w, [gr, g]⟩ [⟨gr, .cells (av 4 (ls [.int .u8 kd, .int .u16 h, .pointer (some ⟨g, 0, none⟩), .int .i64 (rfR ⟨(tkS r_.s r_.f 1), (tkF r_.s r_.f 1), r_.e⟩ 8).e])) 73⟩, ⟨g, .cells (av 3 (ls [.bool true, .string (tkS (tkS r_.s r_.f 1) (tkF r_.s r_.f 1) 2), .int .i64 (tkF (tkS r_.s r_.f 1) (tkF r_.s r_.f 1) 2)])) 112⟩, ⟨g1, .cells (av 4 (ls [.bool false, .int .u64 0, .int .u64 0, .int .u16 (cv .u16 (bnv (tkV (tkS r_.s r_.f 1) (tkF r_.s r_.f 1) 2)))])) 28⟩, ⟨g2, .cells (av 4 (ls [.bool false, .int .u64 0, .int .u64 0, .int .u16 (cv .u16 (bnv (tkV (tkS r_.s r_.f 1) (tkF r_.s r_.f 1) 2)))])) 28⟩] u7 := M
   refine nT ?_
   refine wp_ret ?_
   have e0 : reV r_ = false := by simp only [reS, reM, reV, reH, reL, reP, tkR, rfR_s, rfR_f, if_neg c0, if_neg c1]
   have e1 : (reH r_) = 0 := by simp only [reS, reM, reV, reH, reL, reP, tkR, rfR_s, rfR_f, if_neg c0, if_neg c1]
   have e2 : (reL r_) = 0 := by simp only [reS, reM, reV, reH, reL, reP, tkR, rfR_s, rfR_f, if_neg c0, if_neg c1]
   have e3 : (reP r_) = (cv .u16 (bnv (tkV (tkS r_.s r_.f 1) (tkF r_.s r_.f 1) 2))) := by simp only [reS, reM, reV, reH, reL, reP, tkR, rfR_s, rfR_f, if_neg c0, if_neg c1]
   have e4 : (reS r_).e = (rfR ⟨(tkS r_.s r_.f 1), (tkF r_.s r_.f 1), r_.e⟩ 8).e := by simp only [reS, reM, reV, reH, reL, reP, tkR, rfR_s, rfR_f, if_neg c0, if_neg c1]
   have e5 : (reS r_).s = (tkS (tkS r_.s r_.f 1) (tkF r_.s r_.f 1) 2) := by simp only [reS, reM, reV, reH, reL, reP, tkR, rfR_s, rfR_f, if_neg c0, if_neg c1]
   have e6 : (reS r_).f = (tkF (tkS r_.s r_.f 1) (tkF r_.s r_.f 1) 2) := by simp only [reS, reM, reV, reH, reL, reP, tkR, rfR_s, rfR_f, if_neg c0, if_neg c1]
   exact bodyPost_ret (v := .agg (av 4 (ls [.bool false, .int .u64 0, .int .u64 0, .int .u16 (cv .u16 (bnv (tkV (tkS r_.s r_.f 1) (tkF r_.s r_.f 1) 2)))]))) (results_cell_row Try.results55 _ _ g1 28 (av 4 (ls [.bool false, .int .u64 0, .int .u64 0, .int .u16 (cv .u16 (bnv (tkV (tkS r_.s r_.f 1) (tkF r_.s r_.f 1) 2)))])) (0, 0) _ (by kernel_rfl) (M.get 2 rfl) Try.underlying28 rfl (by rw [av_size]; exact inz28)) (by kernel_rfl) ⟨by rw [e0, e1, e2, e3], M.old, by simpa only [e0, e1, e2, e3, e4, e5, e6] using M.get 0 rfl, by simpa only [e0, e1, e2, e3, e4, e5, e6] using M.get 1 rfl⟩
set_option maxRecDepth 100000 in
set_option maxHeartbeats 4000000 in
set_option linter.unusedSimpArgs false in
theorem r_readText (gr g : Nat) (kd h : Int) (r_ : Rs) (n : Int) (w : World) (hL : Laid w)  (hg0 : w.heap[gr]? = some (.cells (av 4 (ls [.int .u8 kd, .int .u16 h, .pointer (some ⟨g, 0, none⟩), .int .i64 r_.e])) 73)) (hg1 : w.heap[g]? = some (.cells (av 3 (ls [.bool true, .string r_.s, .int .i64 r_.f])) 112)) (hne : gr ≠ g) :
  Calls Try.prog 56 #[.pointer (some ⟨gr, 0, none⟩), .int .i64 n] w fun r w' => r = .returned (.string (rtV r_ n)) ∧ Grw w w' [gr, g] ∧ w'.heap[gr]? = some (.cells (av 4 (ls [.int .u8 kd, .int .u16 h, .pointer (some ⟨g, 0, none⟩), .int .i64 (rtS r_ n).e])) 73) ∧ w'.heap[g]? = some (.cells (av 3 (ls [.bool true, .string (rtS r_ n).s, .int .i64 (rtS r_ n).f])) 112) := by
 go_enter Try.func56, Try.ntmps56
 have M := Mem.startp2 hL hg0 hg1 hne
 refine sR ?_
 refine pV 4 (.string ⟨#[]⟩) ?_
 refine nT ?_
 refine sR ?_
 refine pV 6 (.pointer (some ⟨gr, 0, none⟩)) ?_
 refine pV 7 (.pointer (some ⟨gr, 0, none⟩)) ?_
 refine pV 8 (.pointer (some ⟨gr, 2, none⟩)) ?_
 refine pEz M 9 gr 2 (.pointer (some ⟨g, 0, none⟩)) (fun w M => M.cell 0 rfl (by decide) rfl) ?_
 refine pl_callp M (want_no rfl) (some 10) rfl 54 #[.pointer (some ⟨g, 0, none⟩)] (.int .u16 (cv .u16 (bnv (tkV r_.s r_.f 2)))) 1 g (.cells (av 3 (ls [.bool true, .string r_.s, .int .i64 r_.f])) 112) (.cells (av 3 (ls [.bool true, .string (tkS r_.s r_.f 2), .int .i64 (tkF r_.s r_.f 2)])) 112) rfl (fun _ => by kernel_rfl) (fun w M => r_U16 g r_.s r_.f w M.laid (M.get 1 rfl)) fun u1 M => ?_
 replace M : Mem ⟨w, [gr, g]⟩ [⟨gr, .cells (av 4 (ls [.int .u8 kd, .int .u16 h, .pointer (some ⟨g, 0, none⟩), .int .i64 r_.e])) 73⟩, ⟨g, .cells (av 3 (ls [.bool true, .string (tkS r_.s r_.f 2), .int .i64 (tkF r_.s r_.f 2)])) 112⟩] u1 := M
 refine pV 11 (.int .i64 (rxN r_)) ?_
 refine pV 5 (.int .i64 (rxN r_)) ?_
 refine nT ?_
 refine sR ?_
 refine pV 12 (.pointer (some ⟨gr, 0, none⟩)) ?_
 refine pV 13 (.int .i64 (rxN r_)) ?_
 refine pV 14 (.int .i64 n) ?_
 by_cases c0 : n < (rxN r_)
 ·skip
  refine pH 15 (.bool true) (dTz (n < (rxN r_)) (c0)) ?_
  refine pl_call2 M (want_no rfl) (some 16) rfl 51 #[.pointer (some ⟨gr, 0, none⟩), .bool true, .int .i64 4] (.tuple #[]) 0 1 gr g (.cells (av 4 (ls [.int .u8 kd, .int .u16 h, .pointer (some ⟨g, 0, none⟩), .int .i64 r_.e])) 73) (.cells (av 3 (ls [.bool true, .string (tkS r_.s r_.f 2), .int .i64 (tkF r_.s r_.f 2)])) 112) (.cells (av 4 (ls [.int .u8 kd, .int .u16 h, .pointer (some ⟨g, 0, none⟩), .int .i64 (rfR ⟨(tkS r_.s r_.f 2), (tkF r_.s r_.f 2), r_.e⟩ 4).e])) 73) (.cells (av 3 (ls [.bool true, .string (tkS r_.s r_.f 2), .int .i64 (tkF r_.s r_.f 2)])) 112) rfl rfl (fun _ => by kernel_rfl) (fun w M => r_refT gr g kd h ⟨(tkS r_.s r_.f 2), (tkF r_.s r_.f 2), r_.e⟩ 4 w M.laid (M.get 0 rfl) (M.get 1 rfl) (nodup_at M.nodup (i := 0) (j := 1) rfl rfl (by decide))) fun u2 M => ?_
  replace M : Mem ⟨w, [gr, g]⟩ [⟨gr, .cells (av 4 (ls [.int .u8 kd, .int .u16 h, .pointer (some ⟨g, 0, none⟩), .int .i64 (rfR ⟨(tkS r_.s r_.f 2), (tkF r_.s r_.f 2), r_.e⟩ 4).e])) 73⟩, ⟨g, .cells (av 3 (ls [.bool true, .string (tkS r_.s r_.f 2), .int .i64 (tkF r_.s r_.f 2)])) 112⟩] u2 := M
  refine nT ?_
  refine sR ?_
  refine pV 17 (.pointer (some ⟨gr, 0, none⟩)) ?_
  refine pV 18 (.pointer (some ⟨gr, 0, none⟩)) ?_
  refine pV 19 (.pointer (some ⟨gr, 2, none⟩)) ?_
  refine pEz M 20 gr 2 (.pointer (some ⟨g, 0, none⟩)) (fun w M => M.cell 0 rfl (by decide) rfl) ?_
  refine pV 21 (.int .i64 (rxN r_)) ?_
  refine pl_callp M (want_no rfl) (some 22) rfl 57 #[.pointer (some ⟨g, 0, none⟩), .int .i64 (rxN r_)] (.string (tkV (tkS r_.s r_.f 2) (tkF r_.s r_.f 2) (rxN r_))) 1 g (.cells (av 3 (ls [.bool true, .string (tkS r_.s r_.f 2), .int .i64 (tkF r_.s r_.f 2)])) 112) (.cells (av 3 (ls [.bool true, .string (tkS (tkS r_.s r_.f 2) (tkF r_.s r_.f 2) (rxN r_)), .int .i64 (tkF (tkS r_.s r_.f 2) (tkF r_.s r_.f 2) (rxN r_))])) 112) rfl (fun _ => by kernel_rfl) (fun w M => c_Take g (tkS r_.s r_.f 2) (tkF r_.s r_.f 2) (rxN r_) w M.laid (M.get 1 rfl)) fun u3 M => ?_
  replace M : Mem ⟨w, [gr, g]⟩ [⟨gr, .cells (av 4 (ls [.int .u8 kd, .int .u16 h, .pointer (some ⟨g, 0, none⟩), .int .i64 (rfR ⟨(tkS r_.s r_.f 2), (tkF r_.s r_.f 2), r_.e⟩ 4).e])) 73⟩, ⟨g, .cells (av 3 (ls [.bool true, .string (tkS (tkS r_.s r_.f 2) (tkF r_.s r_.f 2) (rxN r_)), .int .i64 (tkF (tkS r_.s r_.f 2) (tkF r_.s r_.f 2) (rxN r_))])) 112⟩] u3 := M
  refine pV 4 (.string (tkV (tkS r_.s r_.f 2) (tkF r_.s r_.f 2) (rxN r_))) ?_
  refine nT ?_
  refine wp_ret ?_
  have e0 : (rtV r_ n) = (tkV (tkS r_.s r_.f 2) (tkF r_.s r_.f 2) (rxN r_)) := by simp only [rtS, rtM, rtV, tkR, rfR_s, rfR_f, if_pos c0]
  have e1 : (rtS r_ n).e = (rfR ⟨(tkS r_.s r_.f 2), (tkF r_.s r_.f 2), r_.e⟩ 4).e := by simp only [rtS, rtM, rtV, tkR, rfR_s, rfR_f, if_pos c0]
  have e2 : (rtS r_ n).s = (tkS (tkS r_.s r_.f 2) (tkF r_.s r_.f 2) (rxN r_)) := by simp only [rtS, rtM, rtV, tkR, rfR_s, rfR_f, if_pos c0]
  have e3 : (rtS r_ n).f = (tkF (tkS r_.s r_.f 2) (tkF r_.s r_.f 2) (rxN r_)) := by simp only [rtS, rtM, rtV, tkR, rfR_s, rfR_f, if_pos c0]
  exact bodyPost_ret (v := .string (tkV (tkS r_.s r_.f 2) (tkF r_.s r_.f 2) (rxN r_))) (results_tmp1 Try.results56 _ _ _ (by kernel_rfl)) (by kernel_rfl) ⟨by rw [e0], M.old, by simpa only [e0, e1, e2, e3] using M.get 0 rfl, by simpa only [e0, e1, e2, e3] using M.get 1 rfl⟩
 ·skip
  refine pH 15 (.bool false) (dF (n < (rxN r_)) (c0)) ?_
  refine pC M 16 51 #[.pointer (some ⟨gr, 0, none⟩), .bool false, .int .i64 4] (.tuple #[]) (fun w M => r_refF gr g kd h ⟨(tkS r_.s r_.f 2), (tkF r_.s r_.f 2), r_.e⟩ 4 w M.laid (M.get 0 rfl) (M.get 1 rfl) (nodup_at M.nodup (i := 0) (j := 1) rfl rfl (by decide))) fun u2 M => ?_
  refine nT ?_
  refine sR ?_
  refine pV 17 (.pointer (some ⟨gr, 0, none⟩)) ?_
  refine pV 18 (.pointer (some ⟨gr, 0, none⟩)) ?_
  refine pV 19 (.pointer (some ⟨gr, 2, none⟩)) ?_
  refine pEz M 20 gr 2 (.pointer (some ⟨g, 0, none⟩)) (fun w M => M.cell 0 rfl (by decide) rfl) ?_
  refine pV 21 (.int .i64 (rxN r_)) ?_
  refine pl_callp M (want_no rfl) (some 22) rfl 57 #[.pointer (some ⟨g, 0, none⟩), .int .i64 (rxN r_)] (.string (tkV (tkS r_.s r_.f 2) (tkF r_.s r_.f 2) (rxN r_))) 1 g (.cells (av 3 (ls [.bool true, .string (tkS r_.s r_.f 2), .int .i64 (tkF r_.s r_.f 2)])) 112) (.cells (av 3 (ls [.bool true, .string (tkS (tkS r_.s r_.f 2) (tkF r_.s r_.f 2) (rxN r_)), .int .i64 (tkF (tkS r_.s r_.f 2) (tkF r_.s r_.f 2) (rxN r_))])) 112) rfl (fun _ => by kernel_rfl) (fun w M => c_Take g (tkS r_.s r_.f 2) (tkF r_.s r_.f 2) (rxN r_) w M.laid (M.get 1 rfl)) fun u3 M => ?_
  replace M : Mem ⟨w, [gr, g]⟩ [⟨gr, .cells (av 4 (ls [.int .u8 kd, .int .u16 h, .pointer (some ⟨g, 0, none⟩), .int .i64 r_.e])) 73⟩, ⟨g, .cells (av 3 (ls [.bool true, .string (tkS (tkS r_.s r_.f 2) (tkF r_.s r_.f 2) (rxN r_)), .int .i64 (tkF (tkS r_.s r_.f 2) (tkF r_.s r_.f 2) (rxN r_))])) 112⟩] u3 := M
  refine pV 4 (.string (tkV (tkS r_.s r_.f 2) (tkF r_.s r_.f 2) (rxN r_))) ?_
  refine nT ?_
  refine wp_ret ?_
  have e0 : (rtV r_ n) = (tkV (tkS r_.s r_.f 2) (tkF r_.s r_.f 2) (rxN r_)) := by simp only [rtS, rtM, rtV, tkR, rfR_s, rfR_f, if_neg c0]
  have e1 : (rtS r_ n).e = r_.e := by simp only [rtS, rtM, rtV, tkR, rfR_s, rfR_f, if_neg c0]
  have e2 : (rtS r_ n).s = (tkS (tkS r_.s r_.f 2) (tkF r_.s r_.f 2) (rxN r_)) := by simp only [rtS, rtM, rtV, tkR, rfR_s, rfR_f, if_neg c0]
  have e3 : (rtS r_ n).f = (tkF (tkS r_.s r_.f 2) (tkF r_.s r_.f 2) (rxN r_)) := by simp only [rtS, rtM, rtV, tkR, rfR_s, rfR_f, if_neg c0]
  exact bodyPost_ret (v := .string (tkV (tkS r_.s r_.f 2) (tkF r_.s r_.f 2) (rxN r_))) (results_tmp1 Try.results56 _ _ _ (by kernel_rfl)) (by kernel_rfl) ⟨by rw [e0], M.old, by simpa only [e0, e1, e2, e3] using M.get 0 rfl, by simpa only [e0, e1, e2, e3] using M.get 1 rfl⟩
set_option maxRecDepth 100000 in
set_option maxHeartbeats 4000000 in
set_option linter.unusedSimpArgs false in
theorem r_read (gr g : Nat) (kd h : Int) (r_ : Rs) (o : Int) (v : Vl) (w : World) (hL : Laid w)  (hg0 : w.heap[gr]? = some (.cells (av 4 (ls [.int .u8 kd, .int .u16 h, .pointer (some ⟨g, 0, none⟩), .int .i64 r_.e])) 73)) (hg1 : w.heap[g]? = some (.cells (av 3 (ls [.bool true, .string r_.s, .int .i64 r_.f])) 112)) (hne : gr ≠ g) :
  Calls Try.prog 32 #[.pointer (some ⟨gr, 0, none⟩), .int .u16 o, .agg (av 6 (ls [.int .u64 v.n, .string v.t, .bool (v.v), .int .u64 v.h, .int .u64 v.l, .int .u16 v.p]))] w fun r w' => r = .returned (.agg (av 6 (ls [.int .u64 (rdV h o r_).n, .string (rdV h o r_).t, .bool ((rdV h o r_).v), .int .u64 (rdV h o r_).h, .int .u64 (rdV h o r_).l, .int .u16 (rdV h o r_).p]))) ∧ Grw w w' [gr, g] ∧ w'.heap[gr]? = some (.cells (av 4 (ls [.int .u8 kd, .int .u16 h, .pointer (some ⟨g, 0, none⟩), .int .i64 (rdS h o r_).e])) 73) ∧ w'.heap[g]? = some (.cells (av 3 (ls [.bool true, .string (rdS h o r_).s, .int .i64 (rdS h o r_).f])) 112) := by
 go_enter Try.func32, Try.ntmps32
 have M := Mem.startp2 hL hg0 hg1 hne
 refine sR ?_
 refine pN M 5 (.cells (av 6 (ls [.int .u64 v.n, .string v.t, .bool (v.v), .int .u64 v.h, .int .u64 v.l, .int .u16 v.p])) 86) fun g1 u1 M => ?_
 replace M : Mem ⟨w, [gr, g]⟩ [⟨gr, .cells (av 4 (ls [.int .u8 kd, .int .u16 h, .pointer (some ⟨g, 0, none⟩), .int .i64 r_.e])) 73⟩, ⟨g, .cells (av 3 (ls [.bool true, .string r_.s, .int .i64 r_.f])) 112⟩, ⟨g1, .cells (av 6 (ls [.int .u64 v.n, .string v.t, .bool (v.v), .int .u64 v.h, .int .u64 v.l, .int .u16 v.p])) 86⟩] u1 := M
 refine pN M 6 (.cells (av 6 (ls [.int .u64 0, .string ⟨#[]⟩, .bool false, .int .u64 0, .int .u64 0, .int .u16 0])) 86) fun g2 u2 M => ?_
 replace M : Mem ⟨w, [gr, g]⟩ [⟨gr, .cells (av 4 (ls [.int .u8 kd, .int .u16 h, .pointer (some ⟨g, 0, none⟩), .int .i64 r_.e])) 73⟩, ⟨g, .cells (av 3 (ls [.bool true, .string r_.s, .int .i64 r_.f])) 112⟩, ⟨g1, .cells (av 6 (ls [.int .u64 v.n, .string v.t, .bool (v.v), .int .u64 v.h, .int .u64 v.l, .int .u16 v.p])) 86⟩, ⟨g2, .cells (av 6 (ls [.int .u64 0, .string ⟨#[]⟩, .bool false, .int .u64 0, .int .u64 0, .int .u16 0])) 86⟩] u2 := M
 refine nT ?_
 refine wp_seq ?_
 refine sR ?_
 refine pV 7 (.pointer (some ⟨gr, 0, none⟩)) ?_
 refine pV 8 (.pointer (some ⟨gr, 0, none⟩)) ?_
 refine pV 9 (.pointer (some ⟨gr, 1, none⟩)) ?_
 refine pEz M 10 gr 1 (.int .u16 h) (fun w M => M.cell 0 rfl (by decide) rfl) ?_
 refine pV 11 (.int .u16 o) ?_
 refine pV 12 (.int .u16 (yn h o)) ?_
 by_cases c0 : (yn h o) = 0
 ·skip
  refine pH 13 (.bool true) (dTz ((yn h o) = 0) (c0)) ?_
  refine nT ?_
  refine wp_cond_true (by kernel_rfl) ?_
  refine sR ?_
  refine pV 14 (.agg (av 6 (ls [.int .u64 0, .string ⟨#[]⟩, .bool false, .int .u64 0, .int .u64 0, .int .u16 0]))) ?_
  refine pl_put M (want_no rfl) rfl 86 _ _ rfl 3 g2 0 (by kernel_rfl) 6 86 (ls [.int .u64 0, .string ⟨#[]⟩, .bool false, .int .u64 0, .int .u64 0, .int .u16 0]) rfl 6 (ls [.int .u64 0, .string ⟨#[]⟩, .bool false, .int .u64 0, .int .u64 0, .int .u16 0]) (ls [.int .u64 0, .string ⟨#[]⟩, .bool false, .int .u64 0, .int .u64 0, .int .u16 0]) (by kernel_rfl) inz86 (by decide) (one_ls _ rfl) (fun j hj => by rw [if_pos (by omega), Nat.sub_zero]) fun u3 M => ?_
  replace M : Mem ⟨w, [gr, g]⟩ [⟨gr, .cells (av 4 (ls [.int .u8 kd, .int .u16 h, .pointer (some ⟨g, 0, none⟩), .int .i64 r_.e])) 73⟩, ⟨g, .cells (av 3 (ls [.bool true, .string r_.s, .int .i64 r_.f])) 112⟩, ⟨g1, .cells (av 6 (ls [.int .u64 v.n, .string v.t, .bool (v.v), .int .u64 v.h, .int .u64 v.l, .int .u16 v.p])) 86⟩, ⟨g2, .cells (av 6 (ls [.int .u64 0, .string ⟨#[]⟩, .bool false, .int .u64 0, .int .u64 0, .int .u16 0])) 86⟩] u3 := M
  refine nT ?_
  refine wp_ret ?_
  refine au_then_ret ?_
  have e0 : (rdV h o r_).n = 0 := by simp only [rdS, rdV, vN, vT, tkR, if_pos c0]
  have e1 : (rdV h o r_).t = ⟨#[]⟩ := by simp only [rdS, rdV, vN, vT, tkR, if_pos c0]
  have e2 : (rdV h o r_).v = false := by simp only [rdS, rdV, vN, vT, tkR, if_pos c0]
  have e3 : (rdV h o r_).h = 0 := by simp only [rdS, rdV, vN, vT, tkR, if_pos c0]
  have e4 : (rdV h o r_).l = 0 := by simp only [rdS, rdV, vN, vT, tkR, if_pos c0]
  have e5 : (rdV h o r_).p = 0 := by simp only [rdS, rdV, vN, vT, tkR, if_pos c0]
  have e6 : (rdS h o r_).e = r_.e := by simp only [rdS, rdV, vN, vT, tkR, if_pos c0]
  have e7 : (rdS h o r_).s = r_.s := by simp only [rdS, rdV, vN, vT, tkR, if_pos c0]
  have e8 : (rdS h o r_).f = r_.f := by simp only [rdS, rdV, vN, vT, tkR, if_pos c0]
  exact bodyPost_ret (v := .agg (av 6 (ls [.int .u64 0, .string ⟨#[]⟩, .bool false, .int .u64 0, .int .u64 0, .int .u16 0]))) (results_cell_row Try.results32 _ _ g2 86 (av 6 (ls [.int .u64 0, .string ⟨#[]⟩, .bool false, .int .u64 0, .int .u64 0, .int .u16 0])) (0, 0) _ (by kernel_rfl) (M.get 3 rfl) Try.underlying86 rfl (by rw [av_size]; exact inz86)) (by kernel_rfl) ⟨by rw [e0, e1, e2, e3, e4, e5], M.old, by simpa only [e0, e1, e2, e3, e4, e5, e6, e7, e8] using M.get 0 rfl, by simpa only [e0, e1, e2, e3, e4, e5, e6, e7, e8] using M.get 1 rfl⟩
 ·skip
  refine pH 13 (.bool false) (dF ((yn h o) = 0) (c0)) ?_
  refine nT ?_
  refine wp_cond_false (by kernel_rfl) ?_
  refine wp_skip ?_
  refine au_then ?_
  refine wp_seq ?_
  refine sR ?_
  refine pV 15 (.int .u16 o) ?_
  refine nT ?_
  refine wp_block ?_
  refine wp_seq ?_
  refine sR ?_
  by_cases c1 : o = 4
  ·skip
   refine pH 17 (.bool true) (dTz (o = 4) (c1)) ?_
   refine pV 16 (.bool true) ?_
   refine nT ?_
   refine wp_cond_true (by kernel_rfl) ?_
   refine wp_skip ?_
   refine au_then ?_
   refine wp_cond_true (by kernel_rfl) ?_
   refine sR ?_
   refine pV 19 (.pointer (some ⟨gr, 0, none⟩)) ?_
   refine pV 20 (.pointer (some ⟨gr, 0, none⟩)) ?_
   refine pV 21 (.pointer (some ⟨gr, 2, none⟩)) ?_
   refine pEz M 22 gr 2 (.pointer (some ⟨g, 0, none⟩)) (fun w M => M.cell 0 rfl (by decide) rfl) ?_
   refine pl_callp M (want_no rfl) (some 23) rfl 52 #[.pointer (some ⟨g, 0, none⟩)] (.int .u32 (cv .u32 (bnv (tkV r_.s r_.f 4)))) 1 g (.cells (av 3 (ls [.bool true, .string r_.s, .int .i64 r_.f])) 112) (.cells (av 3 (ls [.bool true, .string (tkS r_.s r_.f 4), .int .i64 (tkF r_.s r_.f 4)])) 112) rfl (fun _ => by kernel_rfl) (fun w M => r_U32 g r_.s r_.f w M.laid (M.get 1 rfl)) fun u3 M => ?_
   replace M : Mem ⟨w, [gr, g]⟩ [⟨gr, .cells (av 4 (ls [.int .u8 kd, .int .u16 h, .pointer (some ⟨g, 0, none⟩), .int .i64 r_.e])) 73⟩, ⟨g, .cells (av 3 (ls [.bool true, .string (tkS r_.s r_.f 4), .int .i64 (tkF r_.s r_.f 4)])) 112⟩, ⟨g1, .cells (av 6 (ls [.int .u64 v.n, .string v.t, .bool (v.v), .int .u64 v.h, .int .u64 v.l, .int .u16 v.p])) 86⟩, ⟨g2, .cells (av 6 (ls [.int .u64 0, .string ⟨#[]⟩, .bool false, .int .u64 0, .int .u64 0, .int .u16 0])) 86⟩] u3 := M
   refine pV 24 (.int .u64 (cv .u64 (cv .u32 (bnv (tkV r_.s r_.f 4))))) ?_
   refine pV 25 (.agg (av 6 (ls [.int .u64 (cv .u64 (cv .u32 (bnv (tkV r_.s r_.f 4)))), .string ⟨#[]⟩, .bool false, .int .u64 0, .int .u64 0, .int .u16 0]))) ?_
   refine pl_put M (want_no rfl) rfl 86 _ _ rfl 3 g2 0 (by kernel_rfl) 6 86 (ls [.int .u64 0, .string ⟨#[]⟩, .bool false, .int .u64 0, .int .u64 0, .int .u16 0]) rfl 6 (ls [.int .u64 (cv .u64 (cv .u32 (bnv (tkV r_.s r_.f 4)))), .string ⟨#[]⟩, .bool false, .int .u64 0, .int .u64 0, .int .u16 0]) (ls [.int .u64 (cv .u64 (cv .u32 (bnv (tkV r_.s r_.f 4)))), .string ⟨#[]⟩, .bool false, .int .u64 0, .int .u64 0, .int .u16 0]) (by kernel_rfl) inz86 (by decide) (one_ls _ rfl) (fun j hj => by rw [if_pos (by omega), Nat.sub_zero]) fun u4 M => ?_
   replace M : Mem ⟨w, [gr, g]⟩ [⟨gr, .cells (av 4 (ls [.int .u8 kd, .int .u16 h, .pointer (some ⟨g, 0, none⟩), .int .i64 r_.e])) 73⟩, ⟨g, .cells (av 3 (ls [.bool true, .string (tkS r_.s r_.f 4), .int .i64 (tkF r_.s r_.f 4)])) 112⟩, ⟨g1, .cells (av 6 (ls [.int .u64 v.n, .string v.t, .bool (v.v), .int .u64 v.h, .int .u64 v.l, .int .u16 v.p])) 86⟩, ⟨g2, .cells (av 6 (ls [.int .u64 (cv .u64 (cv .u32 (bnv (tkV r_.s r_.f 4)))), .string ⟨#[]⟩, .bool false, .int .u64 0, .int .u64 0, .int .u16 0])) 86⟩] u4 := M
   refine nT ?_
   refine wp_ret ?_
   refine au_block_ret ?_
   refine au_then_ret ?_
   have e0 : (rdV h o r_).n = (cv .u64 (cv .u32 (bnv (tkV r_.s r_.f 4)))) := by simp only [rdS, rdV, vN, vT, tkR, if_neg c0, if_pos c1]
   have e1 : (rdV h o r_).t = ⟨#[]⟩ := by simp only [rdS, rdV, vN, vT, tkR, if_neg c0, if_pos c1]
   have e2 : (rdV h o r_).v = false := by simp only [rdS, rdV, vN, vT, tkR, if_neg c0, if_pos c1]
   have e3 : (rdV h o r_).h = 0 := by simp only [rdS, rdV, vN, vT, tkR, if_neg c0, if_pos c1]
   have e4 : (rdV h o r_).l = 0 := by simp only [rdS, rdV, vN, vT, tkR, if_neg c0, if_pos c1]
   have e5 : (rdV h o r_).p = 0 := by simp only [rdS, rdV, vN, vT, tkR, if_neg c0, if_pos c1]
   have e6 : (rdS h o r_).e = r_.e := by simp only [rdS, rdV, vN, vT, tkR, if_neg c0, if_pos c1]
   have e7 : (rdS h o r_).s = (tkS r_.s r_.f 4) := by simp only [rdS, rdV, vN, vT, tkR, if_neg c0, if_pos c1]
   have e8 : (rdS h o r_).f = (tkF r_.s r_.f 4) := by simp only [rdS, rdV, vN, vT, tkR, if_neg c0, if_pos c1]
   exact bodyPost_ret (v := .agg (av 6 (ls [.int .u64 (cv .u64 (cv .u32 (bnv (tkV r_.s r_.f 4)))), .string ⟨#[]⟩, .bool false, .int .u64 0, .int .u64 0, .int .u16 0]))) (results_cell_row Try.results32 _ _ g2 86 (av 6 (ls [.int .u64 (cv .u64 (cv .u32 (bnv (tkV r_.s r_.f 4)))), .string ⟨#[]⟩, .bool false, .int .u64 0, .int .u64 0, .int .u16 0])) (0, 0) _ (by kernel_rfl) (M.get 3 rfl) Try.underlying86 rfl (by rw [av_size]; exact inz86)) (by kernel_rfl) ⟨by rw [e0, e1, e2, e3, e4, e5], M.old, by simpa only [e0, e1, e2, e3, e4, e5, e6, e7, e8] using M.get 0 rfl, by simpa only [e0, e1, e2, e3, e4, e5, e6, e7, e8] using M.get 1 rfl⟩
  ·skip
   refine pH 17 (.bool false) (dF (o = 4) (c1)) ?_
   refine pV 16 (.bool false) ?_
   refine nT ?_
   refine wp_cond_false (by kernel_rfl) ?_
   refine rg_lit ?_
   by_cases c2 : o = 8
   ·skip
    refine pH 18 (.bool true) (dTz (o = 8) (c2)) ?_
    refine pV 16 (.bool true) ?_
    refine nT ?_
    refine wp_cond_true (by kernel_rfl) ?_
    refine sR ?_
    refine pV 19 (.pointer (some ⟨gr, 0, none⟩)) ?_
    refine pV 20 (.pointer (some ⟨gr, 0, none⟩)) ?_
    refine pV 21 (.pointer (some ⟨gr, 2, none⟩)) ?_
    refine pEz M 22 gr 2 (.pointer (some ⟨g, 0, none⟩)) (fun w M => M.cell 0 rfl (by decide) rfl) ?_
    refine pl_callp M (want_no rfl) (some 23) rfl 52 #[.pointer (some ⟨g, 0, none⟩)] (.int .u32 (cv .u32 (bnv (tkV r_.s r_.f 4)))) 1 g (.cells (av 3 (ls [.bool true, .string r_.s, .int .i64 r_.f])) 112) (.cells (av 3 (ls [.bool true, .string (tkS r_.s r_.f 4), .int .i64 (tkF r_.s r_.f 4)])) 112) rfl (fun _ => by kernel_rfl) (fun w M => r_U32 g r_.s r_.f w M.laid (M.get 1 rfl)) fun u3 M => ?_
    replace M : Mem ⟨w, [gr, g]⟩ [⟨gr, .cells (av 4 (ls [.int .u8 kd, .int .u16 h, .pointer (some ⟨g, 0, none⟩), .int .i64 r_.e])) 73⟩, ⟨g, .cells (av 3 (ls [.bool true, .string (tkS r_.s r_.f 4), .int .i64 (tkF r_.s r_.f 4)])) 112⟩, ⟨g1, .cells (av 6 (ls [.int .u64 v.n, .string v.t, .bool (v.v), .int .u64 v.h, .int .u64 v.l, .int .u16 v.p])) 86⟩, ⟨g2, .cells (av 6 (ls [.int .u64 0, .string ⟨#[]⟩, .bool false, .int .u64 0, .int .u64 0, .int .u16 0])) 86⟩] u3 := M
    refine pV 24 (.int .u64 (cv .u64 (cv .u32 (bnv (tkV r_.s r_.f 4))))) ?_
    refine pV 25 (.agg (av 6 (ls [.int .u64 (cv .u64 (cv .u32 (bnv (tkV r_.s r_.f 4)))), .string ⟨#[]⟩, .bool false, .int .u64 0, .int .u64 0, .int .u16 0]))) ?_
    refine pl_put M (want_no rfl) rfl 86 _ _ rfl 3 g2 0 (by kernel_rfl) 6 86 (ls [.int .u64 0, .string ⟨#[]⟩, .bool false, .int .u64 0, .int .u64 0, .int .u16 0]) rfl 6 (ls [.int .u64 (cv .u64 (cv .u32 (bnv (tkV r_.s r_.f 4)))), .string ⟨#[]⟩, .bool false, .int .u64 0, .int .u64 0, .int .u16 0]) (ls [.int .u64 (cv .u64 (cv .u32 (bnv (tkV r_.s r_.f 4)))), .string ⟨#[]⟩, .bool false, .int .u64 0, .int .u64 0, .int .u16 0]) (by kernel_rfl) inz86 (by decide) (one_ls _ rfl) (fun j hj => by rw [if_pos (by omega), Nat.sub_zero]) fun u4 M => ?_
    replace M : Mem ⟨w, [gr, g]⟩ [⟨gr, .cells (av 4 (ls [.int .u8 kd, .int .u16 h, .pointer (some ⟨g, 0, none⟩), .int .i64 r_.e])) 73⟩, ⟨g, .cells (av 3 (ls [.bool true, .string (tkS r_.s r_.f 4), .int .i64 (tkF r_.s r_.f 4)])) 112⟩, ⟨g1, .cells (av 6 (ls [.int .u64 v.n, .string v.t, .bool (v.v), .int .u64 v.h, .int .u64 v.l, .int .u16 v.p])) 86⟩, ⟨g2, .cells (av 6 (ls [.int .u64 (cv .u64 (cv .u32 (bnv (tkV r_.s r_.f 4)))), .string ⟨#[]⟩, .bool false, .int .u64 0, .int .u64 0, .int .u16 0])) 86⟩] u4 := M
    refine nT ?_
    refine wp_ret ?_
    refine au_block_ret ?_
    refine au_then_ret ?_
    have e0 : (rdV h o r_).n = (cv .u64 (cv .u32 (bnv (tkV r_.s r_.f 4)))) := by simp only [rdS, rdV, vN, vT, tkR, if_neg c0, if_neg c1, if_pos c2]
    have e1 : (rdV h o r_).t = ⟨#[]⟩ := by simp only [rdS, rdV, vN, vT, tkR, if_neg c0, if_neg c1, if_pos c2]
    have e2 : (rdV h o r_).v = false := by simp only [rdS, rdV, vN, vT, tkR, if_neg c0, if_neg c1, if_pos c2]
    have e3 : (rdV h o r_).h = 0 := by simp only [rdS, rdV, vN, vT, tkR, if_neg c0, if_neg c1, if_pos c2]
    have e4 : (rdV h o r_).l = 0 := by simp only [rdS, rdV, vN, vT, tkR, if_neg c0, if_neg c1, if_pos c2]
    have e5 : (rdV h o r_).p = 0 := by simp only [rdS, rdV, vN, vT, tkR, if_neg c0, if_neg c1, if_pos c2]
    have e6 : (rdS h o r_).e = r_.e := by simp only [rdS, rdV, vN, vT, tkR, if_neg c0, if_neg c1, if_pos c2]
    have e7 : (rdS h o r_).s = (tkS r_.s r_.f 4) := by simp only [rdS, rdV, vN, vT, tkR, if_neg c0, if_neg c1, if_pos c2]
    have e8 : (rdS h o r_).f = (tkF r_.s r_.f 4) := by simp only [rdS, rdV, vN, vT, tkR, if_neg c0, if_neg c1, if_pos c2]
    exact bodyPost_ret (v := .agg (av 6 (ls [.int .u64 (cv .u64 (cv .u32 (bnv (tkV r_.s r_.f 4)))), .string ⟨#[]⟩, .bool false, .int .u64 0, .int .u64 0, .int .u16 0]))) (results_cell_row Try.results32 _ _ g2 86 (av 6 (ls [.int .u64 (cv .u64 (cv .u32 (bnv (tkV r_.s r_.f 4)))), .string ⟨#[]⟩, .bool false, .int .u64 0, .int .u64 0, .int .u16 0])) (0, 0) _ (by kernel_rfl) (M.get 3 rfl) Try.underlying86 rfl (by rw [av_size]; exact inz86)) (by kernel_rfl) ⟨by rw [e0, e1, e2, e3, e4, e5], M.old, by simpa only [e0, e1, e2, e3, e4, e5, e6, e7, e8] using M.get 0 rfl, by simpa only [e0, e1, e2, e3, e4, e5, e6, e7, e8] using M.get 1 rfl⟩
   ·skip
    refine pH 18 (.bool false) (dF (o = 8) (c2)) ?_
    refine pV 16 (.bool false) ?_
    refine nT ?_
    refine wp_cond_false (by kernel_rfl) ?_
    refine wp_seq ?_
    refine sR ?_
    by_cases c3 : o = 16
    ·skip
     refine pH 27 (.bool true) (dTz (o = 16) (c3)) ?_
     refine pV 26 (.bool true) ?_
     refine nT ?_
     refine wp_cond_true (by kernel_rfl) ?_
     refine wp_skip ?_
     refine au_then ?_
     refine wp_cond_true (by kernel_rfl) ?_
     refine sR ?_
     refine pV 30 (.pointer (some ⟨gr, 0, none⟩)) ?_
     refine pV 31 (.pointer (some ⟨gr, 0, none⟩)) ?_
     refine pV 32 (.pointer (some ⟨gr, 2, none⟩)) ?_
     refine pEz M 33 gr 2 (.pointer (some ⟨g, 0, none⟩)) (fun w M => M.cell 0 rfl (by decide) rfl) ?_
     refine pl_callp M (want_no rfl) (some 34) rfl 53 #[.pointer (some ⟨g, 0, none⟩)] (.int .u64 (bnv (tkV r_.s r_.f 8))) 1 g (.cells (av 3 (ls [.bool true, .string r_.s, .int .i64 r_.f])) 112) (.cells (av 3 (ls [.bool true, .string (tkS r_.s r_.f 8), .int .i64 (tkF r_.s r_.f 8)])) 112) rfl (fun _ => by kernel_rfl) (fun w M => r_U64 g r_.s r_.f w M.laid (M.get 1 rfl)) fun u3 M => ?_
     replace M : Mem ⟨w, [gr, g]⟩ [⟨gr, .cells (av 4 (ls [.int .u8 kd, .int .u16 h, .pointer (some ⟨g, 0, none⟩), .int .i64 r_.e])) 73⟩, ⟨g, .cells (av 3 (ls [.bool true, .string (tkS r_.s r_.f 8), .int .i64 (tkF r_.s r_.f 8)])) 112⟩, ⟨g1, .cells (av 6 (ls [.int .u64 v.n, .string v.t, .bool (v.v), .int .u64 v.h, .int .u64 v.l, .int .u16 v.p])) 86⟩, ⟨g2, .cells (av 6 (ls [.int .u64 0, .string ⟨#[]⟩, .bool false, .int .u64 0, .int .u64 0, .int .u16 0])) 86⟩] u3 := M
     refine pV 35 (.agg (av 6 (ls [.int .u64 (bnv (tkV r_.s r_.f 8)), .string ⟨#[]⟩, .bool false, .int .u64 0, .int .u64 0, .int .u16 0]))) ?_
     refine pl_put M (want_no rfl) rfl 86 _ _ rfl 3 g2 0 (by kernel_rfl) 6 86 (ls [.int .u64 0, .string ⟨#[]⟩, .bool false, .int .u64 0, .int .u64 0, .int .u16 0]) rfl 6 (ls [.int .u64 (bnv (tkV r_.s r_.f 8)), .string ⟨#[]⟩, .bool false, .int .u64 0, .int .u64 0, .int .u16 0]) (ls [.int .u64 (bnv (tkV r_.s r_.f 8)), .string ⟨#[]⟩, .bool false, .int .u64 0, .int .u64 0, .int .u16 0]) (by kernel_rfl) inz86 (by decide) (one_ls _ rfl) (fun j hj => by rw [if_pos (by omega), Nat.sub_zero]) fun u4 M => ?_
     replace M : Mem ⟨w, [gr, g]⟩ [⟨gr, .cells (av 4 (ls [.int .u8 kd, .int .u16 h, .pointer (some ⟨g, 0, none⟩), .int .i64 r_.e])) 73⟩, ⟨g, .cells (av 3 (ls [.bool true, .string (tkS r_.s r_.f 8), .int .i64 (tkF r_.s r_.f 8)])) 112⟩, ⟨g1, .cells (av 6 (ls [.int .u64 v.n, .string v.t, .bool (v.v), .int .u64 v.h, .int .u64 v.l, .int .u16 v.p])) 86⟩, ⟨g2, .cells (av 6 (ls [.int .u64 (bnv (tkV r_.s r_.f 8)), .string ⟨#[]⟩, .bool false, .int .u64 0, .int .u64 0, .int .u16 0])) 86⟩] u4 := M
     refine nT ?_
     refine wp_ret ?_
     refine au_block_ret ?_
     refine au_then_ret ?_
     have e0 : (rdV h o r_).n = (bnv (tkV r_.s r_.f 8)) := by simp only [rdS, rdV, vN, vT, tkR, if_neg c0, if_neg c1, if_neg c2, if_pos c3]
     have e1 : (rdV h o r_).t = ⟨#[]⟩ := by simp only [rdS, rdV, vN, vT, tkR, if_neg c0, if_neg c1, if_neg c2, if_pos c3]
     have e2 : (rdV h o r_).v = false := by simp only [rdS, rdV, vN, vT, tkR, if_neg c0, if_neg c1, if_neg c2, if_pos c3]
     have e3 : (rdV h o r_).h = 0 := by simp only [rdS, rdV, vN, vT, tkR, if_neg c0, if_neg c1, if_neg c2, if_pos c3]
     have e4 : (rdV h o r_).l = 0 := by simp only [rdS, rdV, vN, vT, tkR, if_neg c0, if_neg c1, if_neg c2, if_pos c3]
     have e5 : (rdV h o r_).p = 0 := by simp only [rdS, rdV, vN, vT, tkR, if_neg c0, if_neg c1, if_neg c2, if_pos c3]
     have e6 : (rdS h o r_).e = r_.e := by simp only [rdS, rdV, vN, vT, tkR, if_neg c0, if_neg c1, if_neg c2, if_pos c3]
     have e7 : (rdS h o r_).s = (tkS r_.s r_.f 8) := by simp only [rdS, rdV, vN, vT, tkR, if_neg c0, if_neg c1, if_neg c2, if_pos c3]
     have e8 : (rdS h o r_).f = (tkF r_.s r_.f 8) := by simp only [rdS, rdV, vN, vT, tkR, if_neg c0, if_neg c1, if_neg c2, if_pos c3]
     exact bodyPost_ret (v := .agg (av 6 (ls [.int .u64 (bnv (tkV r_.s r_.f 8)), .string ⟨#[]⟩, .bool false, .int .u64 0, .int .u64 0, .int .u16 0]))) (results_cell_row Try.results32 _ _ g2 86 (av 6 (ls [.int .u64 (bnv (tkV r_.s r_.f 8)), .string ⟨#[]⟩, .bool false, .int .u64 0, .int .u64 0, .int .u16 0])) (0, 0) _ (by kernel_rfl) (M.get 3 rfl) Try.underlying86 rfl (by rw [av_size]; exact inz86)) (by kernel_rfl) ⟨by rw [e0, e1, e2, e3, e4, e5], M.old, by simpa only [e0, e1, e2, e3, e4, e5, e6, e7, e8] using M.get 0 rfl, by simpa only [e0, e1, e2, e3, e4, e5, e6, e7, e8] using M.get 1 rfl⟩
    ·skip
     refine pH 27 (.bool false) (dF (o = 16) (c3)) ?_
     refine pV 26 (.bool false) ?_
     refine nT ?_
     refine wp_cond_false (by kernel_rfl) ?_
     refine sR ?_
     by_cases c4 : o = 32
     ·skip
      refine pH 28 (.bool true) (dTz (o = 32) (c4)) ?_
      refine pV 26 (.bool true) ?_
      refine nT ?_
      refine wp_cond_true (by kernel_rfl) ?_
      refine wp_skip ?_
      refine au_then ?_
      refine wp_cond_true (by kernel_rfl) ?_
      refine sR ?_
      refine pV 30 (.pointer (some ⟨gr, 0, none⟩)) ?_
      refine pV 31 (.pointer (some ⟨gr, 0, none⟩)) ?_
      refine pV 32 (.pointer (some ⟨gr, 2, none⟩)) ?_
      refine pEz M 33 gr 2 (.pointer (some ⟨g, 0, none⟩)) (fun w M => M.cell 0 rfl (by decide) rfl) ?_
      refine pl_callp M (want_no rfl) (some 34) rfl 53 #[.pointer (some ⟨g, 0, none⟩)] (.int .u64 (bnv (tkV r_.s r_.f 8))) 1 g (.cells (av 3 (ls [.bool true, .string r_.s, .int .i64 r_.f])) 112) (.cells (av 3 (ls [.bool true, .string (tkS r_.s r_.f 8), .int .i64 (tkF r_.s r_.f 8)])) 112) rfl (fun _ => by kernel_rfl) (fun w M => r_U64 g r_.s r_.f w M.laid (M.get 1 rfl)) fun u3 M => ?_
      replace M : Mem ⟨w, [gr, g]⟩ [⟨gr, .cells (av 4 (ls [.int .u8 kd, .int .u16 h, .pointer (some ⟨g, 0, none⟩), .int .i64 r_.e])) 73⟩, ⟨g, .cells (av 3 (ls [.bool true, .string (tkS r_.s r_.f 8), .int .i64 (tkF r_.s r_.f 8)])) 112⟩, ⟨g1, .cells (av 6 (ls [.int .u64 v.n, .string v.t, .bool (v.v), .int .u64 v.h, .int .u64 v.l, .int .u16 v.p])) 86⟩, ⟨g2, .cells (av 6 (ls [.int .u64 0, .string ⟨#[]⟩, .bool false, .int .u64 0, .int .u64 0, .int .u16 0])) 86⟩] u3 := M
      refine pV 35 (.agg (av 6 (ls [.int .u64 (bnv (tkV r_.s r_.f 8)), .string ⟨#[]⟩, .bool false, .int .u64 0, .int .u64 0, .int .u16 0]))) ?_
      refine pl_put M (want_no rfl) rfl 86 _ _ rfl 3 g2 0 (by kernel_rfl) 6 86 (ls [.int .u64 0, .string ⟨#[]⟩, .bool false, .int .u64 0, .int .u64 0, .int .u16 0]) rfl 6 (ls [.int .u64 (bnv (tkV r_.s r_.f 8)), .string ⟨#[]⟩, .bool false, .int .u64 0, .int .u64 0, .int .u16 0]) (ls [.int .u64 (bnv (tkV r_.s r_.f 8)), .string ⟨#[]⟩, .bool false, .int .u64 0, .int .u64 0, .int .u16 0]) (by kernel_rfl) inz86 (by decide) (one_ls _ rfl) (fun j hj => by rw [if_pos (by omega), Nat.sub_zero]) fun u4 M => ?_
      replace M : Mem ⟨w, [gr, g]⟩ [⟨gr, .cells (av 4 (ls [.int .u8 kd, .int .u16 h, .pointer (some ⟨g, 0, none⟩), .int .i64 r_.e])) 73⟩, ⟨g, .cells (av 3 (ls [.bool true, .string (tkS r_.s r_.f 8), .int .i64 (tkF r_.s r_.f 8)])) 112⟩, ⟨g1, .cells (av 6 (ls [.int .u64 v.n, .string v.t, .bool (v.v), .int .u64 v.h, .int .u64 v.l, .int .u16 v.p])) 86⟩, ⟨g2, .cells (av 6 (ls [.int .u64 (bnv (tkV r_.s r_.f 8)), .string ⟨#[]⟩, .bool false, .int .u64 0, .int .u64 0, .int .u16 0])) 86⟩] u4 := M
      refine nT ?_
      refine wp_ret ?_
      refine au_block_ret ?_
      refine au_then_ret ?_
      have e0 : (rdV h o r_).n = (bnv (tkV r_.s r_.f 8)) := by simp only [rdS, rdV, vN, vT, tkR, if_neg c0, if_neg c1, if_neg c2, if_neg c3, if_pos c4]
      have e1 : (rdV h o r_).t = ⟨#[]⟩ := by simp only [rdS, rdV, vN, vT, tkR, if_neg c0, if_neg c1, if_neg c2, if_neg c3, if_pos c4]
      have e2 : (rdV h o r_).v = false := by simp only [rdS, rdV, vN, vT, tkR, if_neg c0, if_neg c1, if_neg c2, if_neg c3, if_pos c4]
      have e3 : (rdV h o r_).h = 0 := by simp only [rdS, rdV, vN, vT, tkR, if_neg c0, if_neg c1, if_neg c2, if_neg c3, if_pos c4]
      have e4 : (rdV h o r_).l = 0 := by simp only [rdS, rdV, vN, vT, tkR, if_neg c0, if_neg c1, if_neg c2, if_neg c3, if_pos c4]
      have e5 : (rdV h o r_).p = 0 := by simp only [rdS, rdV, vN, vT, tkR, if_neg c0, if_neg c1, if_neg c2, if_neg c3, if_pos c4]
      have e6 : (rdS h o r_).e = r_.e := by simp only [rdS, rdV, vN, vT, tkR, if_neg c0, if_neg c1, if_neg c2, if_neg c3, if_pos c4]
      have e7 : (rdS h o r_).s = (tkS r_.s r_.f 8) := by simp only [rdS, rdV, vN, vT, tkR, if_neg c0, if_neg c1, if_neg c2, if_neg c3, if_pos c4]
      have e8 : (rdS h o r_).f = (tkF r_.s r_.f 8) := by simp only [rdS, rdV, vN, vT, tkR, if_neg c0, if_neg c1, if_neg c2, if_neg c3, if_pos c4]
      exact bodyPost_ret (v := .agg (av 6 (ls [.int .u64 (bnv (tkV r_.s r_.f 8)), .string ⟨#[]⟩, .bool false, .int .u64 0, .int .u64 0, .int .u16 0]))) (results_cell_row Try.results32 _ _ g2 86 (av 6 (ls [.int .u64 (bnv (tkV r_.s r_.f 8)), .string ⟨#[]⟩, .bool false, .int .u64 0, .int .u64 0, .int .u16 0])) (0, 0) _ (by kernel_rfl) (M.get 3 rfl) Try.underlying86 rfl (by rw [av_size]; exact inz86)) (by kernel_rfl) ⟨by rw [e0, e1, e2, e3, e4, e5], M.old, by simpa only [e0, e1, e2, e3, e4, e5, e6, e7, e8] using M.get 0 rfl, by simpa only [e0, e1, e2, e3, e4, e5, e6, e7, e8] using M.get 1 rfl⟩
     ·skip
      refine pH 28 (.bool false) (dF (o = 32) (c4)) ?_
      refine pV 26 (.bool false) ?_
      refine nT ?_
      refine wp_cond_false (by kernel_rfl) ?_
      refine rg_lit ?_
      by_cases c5 : o = 64
      ·skip
       refine pH 29 (.bool true) (dTz (o = 64) (c5)) ?_
       refine pV 26 (.bool true) ?_
       refine nT ?_
       refine wp_cond_true (by kernel_rfl) ?_
       refine sR ?_
       refine pV 30 (.pointer (some ⟨gr, 0, none⟩)) ?_
       refine pV 31 (.pointer (some ⟨gr, 0, none⟩)) ?_
       refine pV 32 (.pointer (some ⟨gr, 2, none⟩)) ?_
       refine pEz M 33 gr 2 (.pointer (some ⟨g, 0, none⟩)) (fun w M => M.cell 0 rfl (by decide) rfl) ?_
       refine pl_callp M (want_no rfl) (some 34) rfl 53 #[.pointer (some ⟨g, 0, none⟩)] (.int .u64 (bnv (tkV r_.s r_.f 8))) 1 g (.cells (av 3 (ls [.bool true, .string r_.s, .int .i64 r_.f])) 112) (.cells (av 3 (ls [.bool true, .string (tkS r_.s r_.f 8), .int .i64 (tkF r_.s r_.f 8)])) 112) rfl (fun _ => by kernel_rfl) (fun w M => r_U64 g r_.s r_.f w M.laid (M.get 1 rfl)) fun u3 M => ?_
       replace M : Mem ⟨w, [gr, g]⟩ [⟨gr, .cells (av 4 (ls [.int .u8 kd, .int .u16 h, .pointer (some ⟨g, 0, none⟩), .int .i64 r_.e])) 73⟩, ⟨g, .cells (av 3 (ls [.bool true, .string (tkS r_.s r_.f 8), .int .i64 (tkF r_.s r_.f 8)])) 112⟩, ⟨g1, .cells (av 6 (ls [.int .u64 v.n, .string v.t, .bool (v.v), .int .u64 v.h, .int .u64 v.l, .int .u16 v.p])) 86⟩, ⟨g2, .cells (av 6 (ls [.int .u64 0, .string ⟨#[]⟩, .bool false, .int .u64 0, .int .u64 0, .int .u16 0])) 86⟩] u3 := M
       refine pV 35 (.agg (av 6 (ls [.int .u64 (bnv (tkV r_.s r_.f 8)), .string ⟨#[]⟩, .bool false, .int .u64 0, .int .u64 0, .int .u16 0]))) ?_
       refine pl_put M (want_no rfl) rfl 86 _ _ rfl 3 g2 0 (by kernel_rfl) 6 86 (ls [.int .u64 0, .string ⟨#[]⟩, .bool false, .int .u64 0, .int .u64 0, .int .u16 0]) rfl 6 (ls [.int .u64 (bnv (tkV r_.s r_.f 8)), .string ⟨#[]⟩, .bool false, .int .u64 0, .int .u64 0, .int .u16 0]) (ls [.int .u64 (bnv (tkV r_.s r_.f 8)), .string ⟨#[]⟩, .bool false, .int .u64 0, .int .u64 0, .int .u16 0]) (by kernel_rfl) inz86 (by decide) (one_ls _ rfl) (fun j hj => by rw [if_pos (by omega), Nat.sub_zero]) fun u4 M => ?_
       replace M : Mem ⟨w, [gr, g]⟩ [⟨gr, .cells (av 4 (ls [.int .u8 kd, .int .u16 h, .pointer (some ⟨g, 0, none⟩), .int .i64 r_.e])) 73⟩, ⟨g, .cells (av 3 (ls [.bool true, .string (tkS r_.s r_.f 8), .int .i64 (tkF r_.s r_.f 8)])) 112⟩, ⟨g1, .cells (av 6 (ls [.int .u64 v.n, .string v.t, .bool (v.v), .int .u64 v.h, .int .u64 v.l, .int .u16 v.p])) 86⟩, ⟨g2, .cells (av 6 (ls [.int .u64 (bnv (tkV r_.s r_.f 8)), .string ⟨#[]⟩, .bool false, .int .u64 0, .int .u64 0, .int .u16 0])) 86⟩] u4 := M
       refine nT ?_
       refine wp_ret ?_
       refine au_block_ret ?_
       refine au_then_ret ?_
       have e0 : (rdV h o r_).n = (bnv (tkV r_.s r_.f 8)) := by simp only [rdS, rdV, vN, vT, tkR, if_neg c0, if_neg c1, if_neg c2, if_neg c3, if_neg c4, if_pos c5]
       have e1 : (rdV h o r_).t = ⟨#[]⟩ := by simp only [rdS, rdV, vN, vT, tkR, if_neg c0, if_neg c1, if_neg c2, if_neg c3, if_neg c4, if_pos c5]
       have e2 : (rdV h o r_).v = false := by simp only [rdS, rdV, vN, vT, tkR, if_neg c0, if_neg c1, if_neg c2, if_neg c3, if_neg c4, if_pos c5]
       have e3 : (rdV h o r_).h = 0 := by simp only [rdS, rdV, vN, vT, tkR, if_neg c0, if_neg c1, if_neg c2, if_neg c3, if_neg c4, if_pos c5]
       have e4 : (rdV h o r_).l = 0 := by simp only [rdS, rdV, vN, vT, tkR, if_neg c0, if_neg c1, if_neg c2, if_neg c3, if_neg c4, if_pos c5]
       have e5 : (rdV h o r_).p = 0 := by simp only [rdS, rdV, vN, vT, tkR, if_neg c0, if_neg c1, if_neg c2, if_neg c3, if_neg c4, if_pos c5]
       have e6 : (rdS h o r_).e = r_.e := by simp only [rdS, rdV, vN, vT, tkR, if_neg c0, if_neg c1, if_neg c2, if_neg c3, if_neg c4, if_pos c5]
       have e7 : (rdS h o r_).s = (tkS r_.s r_.f 8) := by simp only [rdS, rdV, vN, vT, tkR, if_neg c0, if_neg c1, if_neg c2, if_neg c3, if_neg c4, if_pos c5]
       have e8 : (rdS h o r_).f = (tkF r_.s r_.f 8) := by simp only [rdS, rdV, vN, vT, tkR, if_neg c0, if_neg c1, if_neg c2, if_neg c3, if_neg c4, if_pos c5]
       exact bodyPost_ret (v := .agg (av 6 (ls [.int .u64 (bnv (tkV r_.s r_.f 8)), .string ⟨#[]⟩, .bool false, .int .u64 0, .int .u64 0, .int .u16 0]))) (results_cell_row Try.results32 _ _ g2 86 (av 6 (ls [.int .u64 (bnv (tkV r_.s r_.f 8)), .string ⟨#[]⟩, .bool false, .int .u64 0, .int .u64 0, .int .u16 0])) (0, 0) _ (by kernel_rfl) (M.get 3 rfl) Try.underlying86 rfl (by rw [av_size]; exact inz86)) (by kernel_rfl) ⟨by rw [e0, e1, e2, e3, e4, e5], M.old, by simpa only [e0, e1, e2, e3, e4, e5, e6, e7, e8] using M.get 0 rfl, by simpa only [e0, e1, e2, e3, e4, e5, e6, e7, e8] using M.get 1 rfl⟩
      ·skip
       refine pH 29 (.bool false) (dF (o = 64) (c5)) ?_
       refine pV 26 (.bool false) ?_
       refine nT ?_
       refine wp_cond_false (by kernel_rfl) ?_
       refine sR ?_
       by_cases c6 : o = 512
       ·skip
        refine pH 37 (.bool true) (dTz (o = 512) (c6)) ?_
        refine pV 36 (.bool true) ?_
        refine nT ?_
        refine wp_cond_true (by kernel_rfl) ?_
        refine sR ?_
        refine pV 38 (.pointer (some ⟨gr, 0, none⟩)) ?_
        refine pV 39 (.pointer (some ⟨gr, 0, none⟩)) ?_
        refine pV 40 (.pointer (some ⟨gr, 2, none⟩)) ?_
        refine pEz M 41 gr 2 (.pointer (some ⟨g, 0, none⟩)) (fun w M => M.cell 0 rfl (by decide) rfl) ?_
        refine pl_callp M (want_no rfl) (some 42) rfl 54 #[.pointer (some ⟨g, 0, none⟩)] (.int .u16 (cv .u16 (bnv (tkV r_.s r_.f 2)))) 1 g (.cells (av 3 (ls [.bool true, .string r_.s, .int .i64 r_.f])) 112) (.cells (av 3 (ls [.bool true, .string (tkS r_.s r_.f 2), .int .i64 (tkF r_.s r_.f 2)])) 112) rfl (fun _ => by kernel_rfl) (fun w M => r_U16 g r_.s r_.f w M.laid (M.get 1 rfl)) fun u3 M => ?_
        replace M : Mem ⟨w, [gr, g]⟩ [⟨gr, .cells (av 4 (ls [.int .u8 kd, .int .u16 h, .pointer (some ⟨g, 0, none⟩), .int .i64 r_.e])) 73⟩, ⟨g, .cells (av 3 (ls [.bool true, .string (tkS r_.s r_.f 2), .int .i64 (tkF r_.s r_.f 2)])) 112⟩, ⟨g1, .cells (av 6 (ls [.int .u64 v.n, .string v.t, .bool (v.v), .int .u64 v.h, .int .u64 v.l, .int .u16 v.p])) 86⟩, ⟨g2, .cells (av 6 (ls [.int .u64 0, .string ⟨#[]⟩, .bool false, .int .u64 0, .int .u64 0, .int .u16 0])) 86⟩] u3 := M
        refine pV 43 (.int .u64 (cv .u64 (cv .u16 (bnv (tkV r_.s r_.f 2))))) ?_
        refine pV 44 (.agg (av 6 (ls [.int .u64 (cv .u64 (cv .u16 (bnv (tkV r_.s r_.f 2)))), .string ⟨#[]⟩, .bool false, .int .u64 0, .int .u64 0, .int .u16 0]))) ?_
        refine pl_put M (want_no rfl) rfl 86 _ _ rfl 3 g2 0 (by kernel_rfl) 6 86 (ls [.int .u64 0, .string ⟨#[]⟩, .bool false, .int .u64 0, .int .u64 0, .int .u16 0]) rfl 6 (ls [.int .u64 (cv .u64 (cv .u16 (bnv (tkV r_.s r_.f 2)))), .string ⟨#[]⟩, .bool false, .int .u64 0, .int .u64 0, .int .u16 0]) (ls [.int .u64 (cv .u64 (cv .u16 (bnv (tkV r_.s r_.f 2)))), .string ⟨#[]⟩, .bool false, .int .u64 0, .int .u64 0, .int .u16 0]) (by kernel_rfl) inz86 (by decide) (one_ls _ rfl) (fun j hj => by rw [if_pos (by omega), Nat.sub_zero]) fun u4 M => ?_
        replace M : Mem ⟨w, [gr, g]⟩ [⟨gr, .cells (av 4 (ls [.int .u8 kd, .int .u16 h, .pointer (some ⟨g, 0, none⟩), .int .i64 r_.e])) 73⟩, ⟨g, .cells (av 3 (ls [.bool true, .string (tkS r_.s r_.f 2), .int .i64 (tkF r_.s r_.f 2)])) 112⟩, ⟨g1, .cells (av 6 (ls [.int .u64 v.n, .string v.t, .bool (v.v), .int .u64 v.h, .int .u64 v.l, .int .u16 v.p])) 86⟩, ⟨g2, .cells (av 6 (ls [.int .u64 (cv .u64 (cv .u16 (bnv (tkV r_.s r_.f 2)))), .string ⟨#[]⟩, .bool false, .int .u64 0, .int .u64 0, .int .u16 0])) 86⟩] u4 := M
        refine nT ?_
        refine wp_ret ?_
        refine au_block_ret ?_
        refine au_then_ret ?_
        have e0 : (rdV h o r_).n = (cv .u64 (cv .u16 (bnv (tkV r_.s r_.f 2)))) := by simp only [rdS, rdV, vN, vT, tkR, if_neg c0, if_neg c1, if_neg c2, if_neg c3, if_neg c4, if_neg c5, if_pos c6]
        have e1 : (rdV h o r_).t = ⟨#[]⟩ := by simp only [rdS, rdV, vN, vT, tkR, if_neg c0, if_neg c1, if_neg c2, if_neg c3, if_neg c4, if_neg c5, if_pos c6]
        have e2 : (rdV h o r_).v = false := by simp only [rdS, rdV, vN, vT, tkR, if_neg c0, if_neg c1, if_neg c2, if_neg c3, if_neg c4, if_neg c5, if_pos c6]
        have e3 : (rdV h o r_).h = 0 := by simp only [rdS, rdV, vN, vT, tkR, if_neg c0, if_neg c1, if_neg c2, if_neg c3, if_neg c4, if_neg c5, if_pos c6]
        have e4 : (rdV h o r_).l = 0 := by simp only [rdS, rdV, vN, vT, tkR, if_neg c0, if_neg c1, if_neg c2, if_neg c3, if_neg c4, if_neg c5, if_pos c6]
        have e5 : (rdV h o r_).p = 0 := by simp only [rdS, rdV, vN, vT, tkR, if_neg c0, if_neg c1, if_neg c2, if_neg c3, if_neg c4, if_neg c5, if_pos c6]
        have e6 : (rdS h o r_).e = r_.e := by simp only [rdS, rdV, vN, vT, tkR, if_neg c0, if_neg c1, if_neg c2, if_neg c3, if_neg c4, if_neg c5, if_pos c6]
        have e7 : (rdS h o r_).s = (tkS r_.s r_.f 2) := by simp only [rdS, rdV, vN, vT, tkR, if_neg c0, if_neg c1, if_neg c2, if_neg c3, if_neg c4, if_neg c5, if_pos c6]
        have e8 : (rdS h o r_).f = (tkF r_.s r_.f 2) := by simp only [rdS, rdV, vN, vT, tkR, if_neg c0, if_neg c1, if_neg c2, if_neg c3, if_neg c4, if_neg c5, if_pos c6]
        exact bodyPost_ret (v := .agg (av 6 (ls [.int .u64 (cv .u64 (cv .u16 (bnv (tkV r_.s r_.f 2)))), .string ⟨#[]⟩, .bool false, .int .u64 0, .int .u64 0, .int .u16 0]))) (results_cell_row Try.results32 _ _ g2 86 (av 6 (ls [.int .u64 (cv .u64 (cv .u16 (bnv (tkV r_.s r_.f 2)))), .string ⟨#[]⟩, .bool false, .int .u64 0, .int .u64 0, .int .u16 0])) (0, 0) _ (by kernel_rfl) (M.get 3 rfl) Try.underlying86 rfl (by rw [av_size]; exact inz86)) (by kernel_rfl) ⟨by rw [e0, e1, e2, e3, e4, e5], M.old, by simpa only [e0, e1, e2, e3, e4, e5, e6, e7, e8] using M.get 0 rfl, by simpa only [e0, e1, e2, e3, e4, e5, e6, e7, e8] using M.get 1 rfl⟩
       ·skip
        refine pH 37 (.bool false) (dF (o = 512) (c6)) ?_
        refine pV 36 (.bool false) ?_
        refine nT ?_
        refine wp_cond_false (by kernel_rfl) ?_
        refine sR ?_
        by_cases c7 : o = 256
        ·skip
         refine pH 46 (.bool true) (dTz (o = 256) (c7)) ?_
         refine pV 45 (.bool true) ?_
         refine nT ?_
         refine wp_cond_true (by kernel_rfl) ?_
         refine sR ?_
         refine pV 47 (.pointer (some ⟨gr, 0, none⟩)) ?_
         refine pl_call2 M (want_no rfl) (some 48) rfl 55 #[.pointer (some ⟨gr, 0, none⟩)] (.agg (av 4 (ls [.bool (reV r_), .int .u64 (reH r_), .int .u64 (reL r_), .int .u16 (reP r_)]))) 0 1 gr g (.cells (av 4 (ls [.int .u8 kd, .int .u16 h, .pointer (some ⟨g, 0, none⟩), .int .i64 r_.e])) 73) (.cells (av 3 (ls [.bool true, .string r_.s, .int .i64 r_.f])) 112) (.cells (av 4 (ls [.int .u8 kd, .int .u16 h, .pointer (some ⟨g, 0, none⟩), .int .i64 (reS r_).e])) 73) (.cells (av 3 (ls [.bool true, .string (reS r_).s, .int .i64 (reS r_).f])) 112) rfl rfl (fun _ => by kernel_rfl) (fun w M => r_readEnd gr g kd h r_ w M.laid (M.get 0 rfl) (M.get 1 rfl) (nodup_at M.nodup (i := 0) (j := 1) rfl rfl (by decide))) fun u3 M => ?_
         replace M : Mem ⟨w, [gr, g]⟩ [⟨gr, .cells (av 4 (ls [.int .u8 kd, .int .u16 h, .pointer (some ⟨g, 0, none⟩), .int .i64 (reS r_).e])) 73⟩, ⟨g, .cells (av 3 (ls [.bool true, .string (reS r_).s, .int .i64 (reS r_).f])) 112⟩, ⟨g1, .cells (av 6 (ls [.int .u64 v.n, .string v.t, .bool (v.v), .int .u64 v.h, .int .u64 v.l, .int .u16 v.p])) 86⟩, ⟨g2, .cells (av 6 (ls [.int .u64 0, .string ⟨#[]⟩, .bool false, .int .u64 0, .int .u64 0, .int .u16 0])) 86⟩] u3 := M
         refine pV 49 (.agg (av 6 (ls [.int .u64 0, .string ⟨#[]⟩, .bool (reV r_), .int .u64 (reH r_), .int .u64 (reL r_), .int .u16 (reP r_)]))) ?_
         refine pl_put M (want_no rfl) rfl 86 _ _ rfl 3 g2 0 (by kernel_rfl) 6 86 (ls [.int .u64 0, .string ⟨#[]⟩, .bool false, .int .u64 0, .int .u64 0, .int .u16 0]) rfl 6 (ls [.int .u64 0, .string ⟨#[]⟩, .bool (reV r_), .int .u64 (reH r_), .int .u64 (reL r_), .int .u16 (reP r_)]) (ls [.int .u64 0, .string ⟨#[]⟩, .bool (reV r_), .int .u64 (reH r_), .int .u64 (reL r_), .int .u16 (reP r_)]) (by kernel_rfl) inz86 (by decide) (one_ls _ rfl) (fun j hj => by rw [if_pos (by omega), Nat.sub_zero]) fun u4 M => ?_
         replace M : Mem ⟨w, [gr, g]⟩ [⟨gr, .cells (av 4 (ls [.int .u8 kd, .int .u16 h, .pointer (some ⟨g, 0, none⟩), .int .i64 (reS r_).e])) 73⟩, ⟨g, .cells (av 3 (ls [.bool true, .string (reS r_).s, .int .i64 (reS r_).f])) 112⟩, ⟨g1, .cells (av 6 (ls [.int .u64 v.n, .string v.t, .bool (v.v), .int .u64 v.h, .int .u64 v.l, .int .u16 v.p])) 86⟩, ⟨g2, .cells (av 6 (ls [.int .u64 0, .string ⟨#[]⟩, .bool (reV r_), .int .u64 (reH r_), .int .u64 (reL r_), .int .u16 (reP r_)])) 86⟩] u4 := M
         refine nT ?_
         refine wp_ret ?_
         refine au_block_ret ?_
         refine au_then_ret ?_
         have e0 : (rdV h o r_).n = 0 := by simp only [rdS, rdV, vN, vT, tkR, if_neg c0, if_neg c1, if_neg c2, if_neg c3, if_neg c4, if_neg c5, if_neg c6, if_pos c7]
         have e1 : (rdV h o r_).t = ⟨#[]⟩ := by simp only [rdS, rdV, vN, vT, tkR, if_neg c0, if_neg c1, if_neg c2, if_neg c3, if_neg c4, if_neg c5, if_neg c6, if_pos c7]
         have e2 : (rdV h o r_).v = reV r_ := by simp only [rdS, rdV, vN, vT, tkR, if_neg c0, if_neg c1, if_neg c2, if_neg c3, if_neg c4, if_neg c5, if_neg c6, if_pos c7]
         have e3 : (rdV h o r_).h = (reH r_) := by simp only [rdS, rdV, vN, vT, tkR, if_neg c0, if_neg c1, if_neg c2, if_neg c3, if_neg c4, if_neg c5, if_neg c6, if_pos c7]
         have e4 : (rdV h o r_).l = (reL r_) := by simp only [rdS, rdV, vN, vT, tkR, if_neg c0, if_neg c1, if_neg c2, if_neg c3, if_neg c4, if_neg c5, if_neg c6, if_pos c7]
         have e5 : (rdV h o r_).p = (reP r_) := by simp only [rdS, rdV, vN, vT, tkR, if_neg c0, if_neg c1, if_neg c2, if_neg c3, if_neg c4, if_neg c5, if_neg c6, if_pos c7]
         have e6 : (rdS h o r_).e = (reS r_).e := by simp only [rdS, rdV, vN, vT, tkR, if_neg c0, if_neg c1, if_neg c2, if_neg c3, if_neg c4, if_neg c5, if_neg c6, if_pos c7]
         have e7 : (rdS h o r_).s = (reS r_).s := by simp only [rdS, rdV, vN, vT, tkR, if_neg c0, if_neg c1, if_neg c2, if_neg c3, if_neg c4, if_neg c5, if_neg c6, if_pos c7]
         have e8 : (rdS h o r_).f = (reS r_).f := by simp only [rdS, rdV, vN, vT, tkR, if_neg c0, if_neg c1, if_neg c2, if_neg c3, if_neg c4, if_neg c5, if_neg c6, if_pos c7]
         exact bodyPost_ret (v := .agg (av 6 (ls [.int .u64 0, .string ⟨#[]⟩, .bool (reV r_), .int .u64 (reH r_), .int .u64 (reL r_), .int .u16 (reP r_)]))) (results_cell_row Try.results32 _ _ g2 86 (av 6 (ls [.int .u64 0, .string ⟨#[]⟩, .bool (reV r_), .int .u64 (reH r_), .int .u64 (reL r_), .int .u16 (reP r_)])) (0, 0) _ (by kernel_rfl) (M.get 3 rfl) Try.underlying86 rfl (by rw [av_size]; exact inz86)) (by kernel_rfl) ⟨by rw [e0, e1, e2, e3, e4, e5], M.old, by simpa only [e0, e1, e2, e3, e4, e5, e6, e7, e8] using M.get 0 rfl, by simpa only [e0, e1, e2, e3, e4, e5, e6, e7, e8] using M.get 1 rfl⟩
        ·skip
         refine pH 46 (.bool false) (dF (o = 256) (c7)) ?_
         refine pV 45 (.bool false) ?_
         refine nT ?_
         refine wp_cond_false (by kernel_rfl) ?_
         refine wp_seq ?_
         refine sR ?_
         by_cases c8 : o = 1024
         ·skip
          refine pH 51 (.bool true) (dTz (o = 1024) (c8)) ?_
          refine pV 50 (.bool true) ?_
          refine nT ?_
          refine wp_cond_true (by kernel_rfl) ?_
          refine wp_skip ?_
          refine au_then ?_
          refine wp_cond_true (by kernel_rfl) ?_
          refine sR ?_
          refine pV 53 (.pointer (some ⟨gr, 0, none⟩)) ?_
          refine pV 54 (.int .u16 o) ?_
          refine pC M 55 48 #[.int .u16 o] (.int .i64 (moO o)) (fun w M => c_mostOf o w M.laid) fun u3 M => ?_
          refine pl_call2 M (want_no rfl) (some 56) rfl 56 #[.pointer (some ⟨gr, 0, none⟩), .int .i64 (moO o)] (.string (rtV r_ (moO o))) 0 1 gr g (.cells (av 4 (ls [.int .u8 kd, .int .u16 h, .pointer (some ⟨g, 0, none⟩), .int .i64 r_.e])) 73) (.cells (av 3 (ls [.bool true, .string r_.s, .int .i64 r_.f])) 112) (.cells (av 4 (ls [.int .u8 kd, .int .u16 h, .pointer (some ⟨g, 0, none⟩), .int .i64 (rtS r_ (moO o)).e])) 73) (.cells (av 3 (ls [.bool true, .string (rtS r_ (moO o)).s, .int .i64 (rtS r_ (moO o)).f])) 112) rfl rfl (fun _ => by kernel_rfl) (fun w M => r_readText gr g kd h r_ (moO o) w M.laid (M.get 0 rfl) (M.get 1 rfl) (nodup_at M.nodup (i := 0) (j := 1) rfl rfl (by decide))) fun u4 M => ?_
          replace M : Mem ⟨w, [gr, g]⟩ [⟨gr, .cells (av 4 (ls [.int .u8 kd, .int .u16 h, .pointer (some ⟨g, 0, none⟩), .int .i64 (rtS r_ (moO o)).e])) 73⟩, ⟨g, .cells (av 3 (ls [.bool true, .string (rtS r_ (moO o)).s, .int .i64 (rtS r_ (moO o)).f])) 112⟩, ⟨g1, .cells (av 6 (ls [.int .u64 v.n, .string v.t, .bool (v.v), .int .u64 v.h, .int .u64 v.l, .int .u16 v.p])) 86⟩, ⟨g2, .cells (av 6 (ls [.int .u64 0, .string ⟨#[]⟩, .bool false, .int .u64 0, .int .u64 0, .int .u16 0])) 86⟩] u4 := M
          refine pV 57 (.agg (av 6 (ls [.int .u64 0, .string (rtV r_ (moO o)), .bool false, .int .u64 0, .int .u64 0, .int .u16 0]))) ?_
          refine pl_put M (want_no rfl) rfl 86 _ _ rfl 3 g2 0 (by kernel_rfl) 6 86 (ls [.int .u64 0, .string ⟨#[]⟩, .bool false, .int .u64 0, .int .u64 0, .int .u16 0]) rfl 6 (ls [.int .u64 0, .string (rtV r_ (moO o)), .bool false, .int .u64 0, .int .u64 0, .int .u16 0]) (ls [.int .u64 0, .string (rtV r_ (moO o)), .bool false, .int .u64 0, .int .u64 0, .int .u16 0]) (by kernel_rfl) inz86 (by decide) (one_ls _ rfl) (fun j hj => by rw [if_pos (by omega), Nat.sub_zero]) fun u5 M => ?_
          replace M : Mem ⟨w, [gr, g]⟩ [⟨gr, .cells (av 4 (ls [.int .u8 kd, .int .u16 h, .pointer (some ⟨g, 0, none⟩), .int .i64 (rtS r_ (moO o)).e])) 73⟩, ⟨g, .cells (av 3 (ls [.bool true, .string (rtS r_ (moO o)).s, .int .i64 (rtS r_ (moO o)).f])) 112⟩, ⟨g1, .cells (av 6 (ls [.int .u64 v.n, .string v.t, .bool (v.v), .int .u64 v.h, .int .u64 v.l, .int .u16 v.p])) 86⟩, ⟨g2, .cells (av 6 (ls [.int .u64 0, .string (rtV r_ (moO o)), .bool false, .int .u64 0, .int .u64 0, .int .u16 0])) 86⟩] u5 := M
          refine nT ?_
          refine wp_ret ?_
          refine au_block_ret ?_
          refine au_then_ret ?_
          have e0 : (rdV h o r_).n = 0 := by simp only [rdS, rdV, vN, vT, tkR, if_neg c0, if_neg c1, if_neg c2, if_neg c3, if_neg c4, if_neg c5, if_neg c6, if_neg c7, if_pos c8]
          have e1 : (rdV h o r_).t = (rtV r_ (moO o)) := by simp only [rdS, rdV, vN, vT, tkR, if_neg c0, if_neg c1, if_neg c2, if_neg c3, if_neg c4, if_neg c5, if_neg c6, if_neg c7, if_pos c8]
          have e2 : (rdV h o r_).v = false := by simp only [rdS, rdV, vN, vT, tkR, if_neg c0, if_neg c1, if_neg c2, if_neg c3, if_neg c4, if_neg c5, if_neg c6, if_neg c7, if_pos c8]
          have e3 : (rdV h o r_).h = 0 := by simp only [rdS, rdV, vN, vT, tkR, if_neg c0, if_neg c1, if_neg c2, if_neg c3, if_neg c4, if_neg c5, if_neg c6, if_neg c7, if_pos c8]
          have e4 : (rdV h o r_).l = 0 := by simp only [rdS, rdV, vN, vT, tkR, if_neg c0, if_neg c1, if_neg c2, if_neg c3, if_neg c4, if_neg c5, if_neg c6, if_neg c7, if_pos c8]
          have e5 : (rdV h o r_).p = 0 := by simp only [rdS, rdV, vN, vT, tkR, if_neg c0, if_neg c1, if_neg c2, if_neg c3, if_neg c4, if_neg c5, if_neg c6, if_neg c7, if_pos c8]
          have e6 : (rdS h o r_).e = (rtS r_ (moO o)).e := by simp only [rdS, rdV, vN, vT, tkR, if_neg c0, if_neg c1, if_neg c2, if_neg c3, if_neg c4, if_neg c5, if_neg c6, if_neg c7, if_pos c8]
          have e7 : (rdS h o r_).s = (rtS r_ (moO o)).s := by simp only [rdS, rdV, vN, vT, tkR, if_neg c0, if_neg c1, if_neg c2, if_neg c3, if_neg c4, if_neg c5, if_neg c6, if_neg c7, if_pos c8]
          have e8 : (rdS h o r_).f = (rtS r_ (moO o)).f := by simp only [rdS, rdV, vN, vT, tkR, if_neg c0, if_neg c1, if_neg c2, if_neg c3, if_neg c4, if_neg c5, if_neg c6, if_neg c7, if_pos c8]
          exact bodyPost_ret (v := .agg (av 6 (ls [.int .u64 0, .string (rtV r_ (moO o)), .bool false, .int .u64 0, .int .u64 0, .int .u16 0]))) (results_cell_row Try.results32 _ _ g2 86 (av 6 (ls [.int .u64 0, .string (rtV r_ (moO o)), .bool false, .int .u64 0, .int .u64 0, .int .u16 0])) (0, 0) _ (by kernel_rfl) (M.get 3 rfl) Try.underlying86 rfl (by rw [av_size]; exact inz86)) (by kernel_rfl) ⟨by rw [e0, e1, e2, e3, e4, e5], M.old, by simpa only [e0, e1, e2, e3, e4, e5, e6, e7, e8] using M.get 0 rfl, by simpa only [e0, e1, e2, e3, e4, e5, e6, e7, e8] using M.get 1 rfl⟩
         ·skip
          refine pH 51 (.bool false) (dF (o = 1024) (c8)) ?_
          refine pV 50 (.bool false) ?_
          refine nT ?_
          refine wp_cond_false (by kernel_rfl) ?_
          refine rg_lit ?_
          by_cases c9 : o = 2048
          ·skip
           refine pH 52 (.bool true) (dTz (o = 2048) (c9)) ?_
           refine pV 50 (.bool true) ?_
           refine nT ?_
           refine wp_cond_true (by kernel_rfl) ?_
           refine sR ?_
           refine pV 53 (.pointer (some ⟨gr, 0, none⟩)) ?_
           refine pV 54 (.int .u16 o) ?_
           refine pC M 55 48 #[.int .u16 o] (.int .i64 (moO o)) (fun w M => c_mostOf o w M.laid) fun u3 M => ?_
           refine pl_call2 M (want_no rfl) (some 56) rfl 56 #[.pointer (some ⟨gr, 0, none⟩), .int .i64 (moO o)] (.string (rtV r_ (moO o))) 0 1 gr g (.cells (av 4 (ls [.int .u8 kd, .int .u16 h, .pointer (some ⟨g, 0, none⟩), .int .i64 r_.e])) 73) (.cells (av 3 (ls [.bool true, .string r_.s, .int .i64 r_.f])) 112) (.cells (av 4 (ls [.int .u8 kd, .int .u16 h, .pointer (some ⟨g, 0, none⟩), .int .i64 (rtS r_ (moO o)).e])) 73) (.cells (av 3 (ls [.bool true, .string (rtS r_ (moO o)).s, .int .i64 (rtS r_ (moO o)).f])) 112) rfl rfl (fun _ => by kernel_rfl) (fun w M => r_readText gr g kd h r_ (moO o) w M.laid (M.get 0 rfl) (M.get 1 rfl) (nodup_at M.nodup (i := 0) (j := 1) rfl rfl (by decide))) fun u4 M => ?_
           replace M : Mem ⟨w, [gr, g]⟩ [⟨gr, .cells (av 4 (ls [.int .u8 kd, .int .u16 h, .pointer (some ⟨g, 0, none⟩), .int .i64 (rtS r_ (moO o)).e])) 73⟩, ⟨g, .cells (av 3 (ls [.bool true, .string (rtS r_ (moO o)).s, .int .i64 (rtS r_ (moO o)).f])) 112⟩, ⟨g1, .cells (av 6 (ls [.int .u64 v.n, .string v.t, .bool (v.v), .int .u64 v.h, .int .u64 v.l, .int .u16 v.p])) 86⟩, ⟨g2, .cells (av 6 (ls [.int .u64 0, .string ⟨#[]⟩, .bool false, .int .u64 0, .int .u64 0, .int .u16 0])) 86⟩] u4 := M
           refine pV 57 (.agg (av 6 (ls [.int .u64 0, .string (rtV r_ (moO o)), .bool false, .int .u64 0, .int .u64 0, .int .u16 0]))) ?_
           refine pl_put M (want_no rfl) rfl 86 _ _ rfl 3 g2 0 (by kernel_rfl) 6 86 (ls [.int .u64 0, .string ⟨#[]⟩, .bool false, .int .u64 0, .int .u64 0, .int .u16 0]) rfl 6 (ls [.int .u64 0, .string (rtV r_ (moO o)), .bool false, .int .u64 0, .int .u64 0, .int .u16 0]) (ls [.int .u64 0, .string (rtV r_ (moO o)), .bool false, .int .u64 0, .int .u64 0, .int .u16 0]) (by kernel_rfl) inz86 (by decide) (one_ls _ rfl) (fun j hj => by rw [if_pos (by omega), Nat.sub_zero]) fun u5 M => ?_
           replace M : Mem ⟨w, [gr, g]⟩ [⟨gr, .cells (av 4 (ls [.int .u8 kd, .int .u16 h, .pointer (some ⟨g, 0, none⟩), .int .i64 (rtS r_ (moO o)).e])) 73⟩, ⟨g, .cells (av 3 (ls [.bool true, .string (rtS r_ (moO o)).s, .int .i64 (rtS r_ (moO o)).f])) 112⟩, ⟨g1, .cells (av 6 (ls [.int .u64 v.n, .string v.t, .bool (v.v), .int .u64 v.h, .int .u64 v.l, .int .u16 v.p])) 86⟩, ⟨g2, .cells (av 6 (ls [.int .u64 0, .string (rtV r_ (moO o)), .bool false, .int .u64 0, .int .u64 0, .int .u16 0])) 86⟩] u5 := M
           refine nT ?_
           refine wp_ret ?_
           refine au_block_ret ?_
           refine au_then_ret ?_
           have e0 : (rdV h o r_).n = 0 := by simp only [rdS, rdV, vN, vT, tkR, if_neg c0, if_neg c1, if_neg c2, if_neg c3, if_neg c4, if_neg c5, if_neg c6, if_neg c7, if_neg c8, if_pos c9]
           have e1 : (rdV h o r_).t = (rtV r_ (moO o)) := by simp only [rdS, rdV, vN, vT, tkR, if_neg c0, if_neg c1, if_neg c2, if_neg c3, if_neg c4, if_neg c5, if_neg c6, if_neg c7, if_neg c8, if_pos c9]
           have e2 : (rdV h o r_).v = false := by simp only [rdS, rdV, vN, vT, tkR, if_neg c0, if_neg c1, if_neg c2, if_neg c3, if_neg c4, if_neg c5, if_neg c6, if_neg c7, if_neg c8, if_pos c9]
           have e3 : (rdV h o r_).h = 0 := by simp only [rdS, rdV, vN, vT, tkR, if_neg c0, if_neg c1, if_neg c2, if_neg c3, if_neg c4, if_neg c5, if_neg c6, if_neg c7, if_neg c8, if_pos c9]
           have e4 : (rdV h o r_).l = 0 := by simp only [rdS, rdV, vN, vT, tkR, if_neg c0, if_neg c1, if_neg c2, if_neg c3, if_neg c4, if_neg c5, if_neg c6, if_neg c7, if_neg c8, if_pos c9]
           have e5 : (rdV h o r_).p = 0 := by simp only [rdS, rdV, vN, vT, tkR, if_neg c0, if_neg c1, if_neg c2, if_neg c3, if_neg c4, if_neg c5, if_neg c6, if_neg c7, if_neg c8, if_pos c9]
           have e6 : (rdS h o r_).e = (rtS r_ (moO o)).e := by simp only [rdS, rdV, vN, vT, tkR, if_neg c0, if_neg c1, if_neg c2, if_neg c3, if_neg c4, if_neg c5, if_neg c6, if_neg c7, if_neg c8, if_pos c9]
           have e7 : (rdS h o r_).s = (rtS r_ (moO o)).s := by simp only [rdS, rdV, vN, vT, tkR, if_neg c0, if_neg c1, if_neg c2, if_neg c3, if_neg c4, if_neg c5, if_neg c6, if_neg c7, if_neg c8, if_pos c9]
           have e8 : (rdS h o r_).f = (rtS r_ (moO o)).f := by simp only [rdS, rdV, vN, vT, tkR, if_neg c0, if_neg c1, if_neg c2, if_neg c3, if_neg c4, if_neg c5, if_neg c6, if_neg c7, if_neg c8, if_pos c9]
           exact bodyPost_ret (v := .agg (av 6 (ls [.int .u64 0, .string (rtV r_ (moO o)), .bool false, .int .u64 0, .int .u64 0, .int .u16 0]))) (results_cell_row Try.results32 _ _ g2 86 (av 6 (ls [.int .u64 0, .string (rtV r_ (moO o)), .bool false, .int .u64 0, .int .u64 0, .int .u16 0])) (0, 0) _ (by kernel_rfl) (M.get 3 rfl) Try.underlying86 rfl (by rw [av_size]; exact inz86)) (by kernel_rfl) ⟨by rw [e0, e1, e2, e3, e4, e5], M.old, by simpa only [e0, e1, e2, e3, e4, e5, e6, e7, e8] using M.get 0 rfl, by simpa only [e0, e1, e2, e3, e4, e5, e6, e7, e8] using M.get 1 rfl⟩
          ·skip
           refine pH 52 (.bool false) (dF (o = 2048) (c9)) ?_
           refine pV 50 (.bool false) ?_
           refine nT ?_
           refine wp_cond_false (by kernel_rfl) ?_
           refine wp_skip ?_
           refine au_block ?_
           refine au_then ?_
           refine wp_seq ?_
           refine rg_tail M 6 (by kernel_rfl) (by kernel_rfl) ?_
           simp only [List.take_succ_cons, List.take_zero]
           refine kV 58 (.pointer (some ⟨gr, 0, none⟩)) ?_
           refine kV 59 (.pointer (some ⟨gr, 0, none⟩)) ?_
           refine kV 60 (.pointer (some ⟨gr, 2, none⟩)) ?_
           refine kE M 61 gr 2 (.pointer (some ⟨g, 0, none⟩)) (fun w M => M.cell 0 rfl (by decide) rfl) ?_
           refine kV 62 (.int .u16 o) ?_
           refine kC M 63 46 #[.int .u16 o] (.int .i64 (szO o)) (fun w M => c_sizeOf o w M.laid) ?_
           refine kl_nil fun u3 M => ?_
           replace M : Mem ⟨w, [gr, g]⟩ [⟨gr, .cells (av 4 (ls [.int .u8 kd, .int .u16 h, .pointer (some ⟨g, 0, none⟩), .int .i64 r_.e])) 73⟩, ⟨g, .cells (av 3 (ls [.bool true, .string r_.s, .int .i64 r_.f])) 112⟩, ⟨g1, .cells (av 6 (ls [.int .u64 v.n, .string v.t, .bool (v.v), .int .u64 v.h, .int .u64 v.l, .int .u16 v.p])) 86⟩, ⟨g2, .cells (av 6 (ls [.int .u64 0, .string ⟨#[]⟩, .bool false, .int .u64 0, .int .u64 0, .int .u16 0])) 86⟩] u3 := M
           refine pl_callp M (want_no rfl) (some 64) rfl 57 #[.pointer (some ⟨g, 0, none⟩), .int .i64 (szO o)] (.string (tkV r_.s r_.f (szO o))) 1 g (.cells (av 3 (ls [.bool true, .string r_.s, .int .i64 r_.f])) 112) (.cells (av 3 (ls [.bool true, .string (tkS r_.s r_.f (szO o)), .int .i64 (tkF r_.s r_.f (szO o))])) 112) rfl (fun _ => by kernel_rfl) (fun w M => c_Take g r_.s r_.f (szO o) w M.laid (M.get 1 rfl)) fun u4 M => ?_
           replace M : Mem ⟨w, [gr, g]⟩ [⟨gr, .cells (av 4 (ls [.int .u8 kd, .int .u16 h, .pointer (some ⟨g, 0, none⟩), .int .i64 r_.e])) 73⟩, ⟨g, .cells (av 3 (ls [.bool true, .string (tkS r_.s r_.f (szO o)), .int .i64 (tkF r_.s r_.f (szO o))])) 112⟩, ⟨g1, .cells (av 6 (ls [.int .u64 v.n, .string v.t, .bool (v.v), .int .u64 v.h, .int .u64 v.l, .int .u16 v.p])) 86⟩, ⟨g2, .cells (av 6 (ls [.int .u64 0, .string ⟨#[]⟩, .bool false, .int .u64 0, .int .u64 0, .int .u16 0])) 86⟩] u4 := M
           refine pV 65 (.agg (av 6 (ls [.int .u64 0, .string (tkV r_.s r_.f (szO o)), .bool false, .int .u64 0, .int .u64 0, .int .u16 0]))) ?_
           refine pl_put M (want_no rfl) rfl 86 _ _ rfl 3 g2 0 (by kernel_rfl) 6 86 (ls [.int .u64 0, .string ⟨#[]⟩, .bool false, .int .u64 0, .int .u64 0, .int .u16 0]) rfl 6 (ls [.int .u64 0, .string (tkV r_.s r_.f (szO o)), .bool false, .int .u64 0, .int .u64 0, .int .u16 0]) (ls [.int .u64 0, .string (tkV r_.s r_.f (szO o)), .bool false, .int .u64 0, .int .u64 0, .int .u16 0]) (by kernel_rfl) inz86 (by decide) (one_ls _ rfl) (fun j hj => by rw [if_pos (by omega), Nat.sub_zero]) fun u5 M => ?_
           replace M : Mem ⟨w, [gr, g]⟩ [⟨gr, .cells (av 4 (ls [.int .u8 kd, .int .u16 h, .pointer (some ⟨g, 0, none⟩), .int .i64 r_.e])) 73⟩, ⟨g, .cells (av 3 (ls [.bool true, .string (tkS r_.s r_.f (szO o)), .int .i64 (tkF r_.s r_.f (szO o))])) 112⟩, ⟨g1, .cells (av 6 (ls [.int .u64 v.n, .string v.t, .bool (v.v), .int .u64 v.h, .int .u64 v.l, .int .u16 v.p])) 86⟩, ⟨g2, .cells (av 6 (ls [.int .u64 0, .string (tkV r_.s r_.f (szO o)), .bool false, .int .u64 0, .int .u64 0, .int .u16 0])) 86⟩] u5 := M
           refine nT ?_
           refine wp_ret ?_
           have e0 : (rdV h o r_).n = 0 := by simp only [rdS, rdV, vN, vT, tkR, if_neg c0, if_neg c1, if_neg c2, if_neg c3, if_neg c4, if_neg c5, if_neg c6, if_neg c7, if_neg c8, if_neg c9]
           have e1 : (rdV h o r_).t = (tkV r_.s r_.f (szO o)) := by simp only [rdS, rdV, vN, vT, tkR, if_neg c0, if_neg c1, if_neg c2, if_neg c3, if_neg c4, if_neg c5, if_neg c6, if_neg c7, if_neg c8, if_neg c9]
           have e2 : (rdV h o r_).v = false := by simp only [rdS, rdV, vN, vT, tkR, if_neg c0, if_neg c1, if_neg c2, if_neg c3, if_neg c4, if_neg c5, if_neg c6, if_neg c7, if_neg c8, if_neg c9]
           have e3 : (rdV h o r_).h = 0 := by simp only [rdS, rdV, vN, vT, tkR, if_neg c0, if_neg c1, if_neg c2, if_neg c3, if_neg c4, if_neg c5, if_neg c6, if_neg c7, if_neg c8, if_neg c9]
           have e4 : (rdV h o r_).l = 0 := by simp only [rdS, rdV, vN, vT, tkR, if_neg c0, if_neg c1, if_neg c2, if_neg c3, if_neg c4, if_neg c5, if_neg c6, if_neg c7, if_neg c8, if_neg c9]
           have e5 : (rdV h o r_).p = 0 := by simp only [rdS, rdV, vN, vT, tkR, if_neg c0, if_neg c1, if_neg c2, if_neg c3, if_neg c4, if_neg c5, if_neg c6, if_neg c7, if_neg c8, if_neg c9]
           have e6 : (rdS h o r_).e = r_.e := by simp only [rdS, rdV, vN, vT, tkR, if_neg c0, if_neg c1, if_neg c2, if_neg c3, if_neg c4, if_neg c5, if_neg c6, if_neg c7, if_neg c8, if_neg c9]
           have e7 : (rdS h o r_).s = (tkS r_.s r_.f (szO o)) := by simp only [rdS, rdV, vN, vT, tkR, if_neg c0, if_neg c1, if_neg c2, if_neg c3, if_neg c4, if_neg c5, if_neg c6, if_neg c7, if_neg c8, if_neg c9]
           have e8 : (rdS h o r_).f = (tkF r_.s r_.f (szO o)) := by simp only [rdS, rdV, vN, vT, tkR, if_neg c0, if_neg c1, if_neg c2, if_neg c3, if_neg c4, if_neg c5, if_neg c6, if_neg c7, if_neg c8, if_neg c9]
           exact bodyPost_ret (v := .agg (av 6 (ls [.int .u64 0, .string (tkV r_.s r_.f (szO o)), .bool false, .int .u64 0, .int .u64 0, .int .u16 0]))) (results_cell_row Try.results32 _ _ g2 86 (av 6 (ls [.int .u64 0, .string (tkV r_.s r_.f (szO o)), .bool false, .int .u64 0, .int .u64 0, .int .u16 0])) (0, 0) _ (by kernel_rfl) (M.get 3 rfl) Try.underlying86 rfl (by rw [av_size]; exact inz86)) (by kernel_rfl) ⟨by rw [e0, e1, e2, e3, e4, e5], M.old, by simpa only [e0, e1, e2, e3, e4, e5, e6, e7, e8] using M.get 0 rfl, by simpa only [e0, e1, e2, e3, e4, e5, e6, e7, e8] using M.get 1 rfl⟩
end Go.Proofs.Ytbechjlkmajcoaa

namespace Go.Proofs.Ytbechjlkmajcoaa
open Go.RowKit
theorem st_rd (gr g : Nat) (kd h : Int) (r : Rs) (hne : gr ≠ g) (m : Mg) : ∀ k, k < 13 → ∀ T w, T = [⟨gr, .cells (av 4 (ls [.int .u8 kd, .int .u16 h, .pointer (some ⟨g, 0, none⟩), .int .i64 (rdK h r k).e])) 73⟩, ⟨g, .cells (av 3 (ls [.bool true, .string (rdK h r k).s, .int .i64 (rdK h r k).f])) 112⟩] → (∀ b ∈ T, w.heap[b.g]? = some b.Z) → (T.map Blk.g).Nodup → Calls Try.prog 32 #[.pointer (some ⟨gr, 0, none⟩), .int .u16 (bitV k), .agg (av 6 (vlL (inV m k)))] w fun e w' => e = .returned (.agg (av 6 (vlL (rdO h r k)))) ∧ ∃ T', T' = [⟨gr, .cells (av 4 (ls [.int .u8 kd, .int .u16 h, .pointer (some ⟨g, 0, none⟩), .int .i64 (rdK h r (k + 1)).e])) 73⟩, ⟨g, .cells (av 3 (ls [.bool true, .string (rdK h r (k + 1)).s, .int .i64 (rdK h r (k + 1)).f])) 112⟩] ∧ OkT w w' T T' := by
 intro k _ T w hT hat _
 subst hT
 exact (r_read gr g kd h (rdK h r k) (bitV k) (inV m k) w trivial (hat _ (List.mem_cons_self ..)) (hat _ (List.mem_cons_of_mem _ (List.mem_singleton.2 rfl))) hne).mono fun e w' ⟨he, hg, h1, h2⟩ => ⟨he, _, rfl, okT_two hg h1 h2 hne⟩
set_option maxRecDepth 100000 in
set_option maxHeartbeats 4000000 in
set_option linter.unusedSimpArgs false in
theorem c_readerOf (s : ByteArray) (w : World) (hL : Laid w)  :
  Calls Try.prog 31 #[.string s] w fun e w' => ∃ g k Z Y, e = .returned (.pointer (some ⟨g, 0, none⟩)) ∧ (Z = .cells (av 4 (ls [.int .u8 (kdP s), .int .u16 (shP (kdP s)), .pointer (some ⟨k, 0, none⟩), .int .i64 (r0P s).e])) 73 ∧ Y = .cells (av 3 (ls [.bool true, .string (r0P s).s, .int .i64 (r0P s).f])) 112) ∧ w.heap.size ≤ g ∧ w.heap.size ≤ k ∧ g ≠ k ∧ w'.heap[g]? = some Z ∧ w'.heap[k]? = some Y ∧ Below w.heap.size w w' := by
 go_enter Try.func31, Try.ntmps31
 have M := Mem.start hL
 refine sR ?_
 refine pV 2 (.pointer none) ?_
 refine nT ?_
 refine sR ?_
 refine pV 4 (.string s) ?_
 refine pl_calln M (want_no rfl) (some 5) rfl 49 #[.string s] (fun g1 => .pointer (some ⟨g1, 0, none⟩)) (.cells (av 3 (ls [.bool true, .string s, .int .i64 0])) 112) (fun _ => by kernel_rfl) (fun w M => c_New s w M.laid) fun g1 u1 M => ?_
 replace M : Mem ⟨w, []⟩ [⟨g1, .cells (av 3 (ls [.bool true, .string s, .int .i64 0])) 112⟩] u1 := M
 refine pV 6 (.agg (av 4 (ls [.int .u8 0, .int .u16 0, .pointer (some ⟨g1, 0, none⟩), .int .i64 0]))) ?_
 refine pN M 7 (.cells (av 4 (ls [.int .u8 0, .int .u16 0, .pointer (some ⟨g1, 0, none⟩), .int .i64 0])) 73) fun g2 u2 M => ?_
 replace M : Mem ⟨w, []⟩ [⟨g1, .cells (av 3 (ls [.bool true, .string s, .int .i64 0])) 112⟩, ⟨g2, .cells (av 4 (ls [.int .u8 0, .int .u16 0, .pointer (some ⟨g1, 0, none⟩), .int .i64 0])) 73⟩] u2 := M
 refine pV 3 (.pointer (some ⟨g2, 0, none⟩)) ?_
 refine nT ?_
 refine sR ?_
 refine pV 8 (.pointer (some ⟨g2, 0, none⟩)) ?_
 refine pV 9 (.pointer (some ⟨g2, 0, none⟩)) ?_
 refine pV 10 (.pointer (some ⟨g2, 0, none⟩)) ?_
 refine pV 11 (.pointer (some ⟨g2, 2, none⟩)) ?_
 refine pEz M 12 g2 2 (.pointer (some ⟨g1, 0, none⟩)) (fun w M => M.cell 1 rfl (by decide) rfl) ?_
 refine pl_callp M (want_no rfl) (some 13) rfl 50 #[.pointer (some ⟨g1, 0, none⟩)] (.int .u8 (kdP s)) 0 g1 (.cells (av 3 (ls [.bool true, .string s, .int .i64 0])) 112) (.cells (av 3 (ls [.bool true, .string (tkS s 0 1), .int .i64 (tkF s 0 1)])) 112) rfl (fun _ => by kernel_rfl) (fun w M => r_U8 g1 s 0 w M.laid (M.get 0 rfl)) fun u3 M => ?_
 replace M : Mem ⟨w, []⟩ [⟨g1, .cells (av 3 (ls [.bool true, .string (tkS s 0 1), .int .i64 (tkF s 0 1)])) 112⟩, ⟨g2, .cells (av 4 (ls [.int .u8 0, .int .u16 0, .pointer (some ⟨g1, 0, none⟩), .int .i64 0])) 73⟩] u3 := M
 refine pV 14 (.pointer (some ⟨g2, 0, none⟩)) ?_
 refine pV 15 (.pointer (some ⟨g2, 0, none⟩)) ?_
 refine pP M 1 rfl 0 (.int .u8 (kdP s)) (ls [.int .u8 (kdP s), .int .u16 0, .pointer (some ⟨g1, 0, none⟩), .int .i64 0]) (by decide) (put_ls _ 0 _ _ rfl) fun u4 M => ?_
 replace M : Mem ⟨w, []⟩ [⟨g1, .cells (av 3 (ls [.bool true, .string (tkS s 0 1), .int .i64 (tkF s 0 1)])) 112⟩, ⟨g2, .cells (av 4 (ls [.int .u8 (kdP s), .int .u16 0, .pointer (some ⟨g1, 0, none⟩), .int .i64 0])) 73⟩] u4 := M
 refine nT ?_
 refine sR ?_
 refine pV 17 (.pointer (some ⟨g2, 0, none⟩)) ?_
 refine pV 18 (.pointer (some ⟨g2, 0, none⟩)) ?_
 refine pV 19 (.pointer (some ⟨g2, 0, none⟩)) ?_
 refine pV 20 (.pointer (some ⟨g2, 0, none⟩)) ?_
 refine pEz M 21 g2 0 (.int .u8 (kdP s)) (fun w M => M.cell 1 rfl (by decide) rfl) ?_
 refine pC M 22 26 #[.int .u8 (kdP s)] (.tuple #[.string (nmP (kdP s)), .int .u16 (shP (kdP s))]) (fun w M => c_shapeOf (kdP s) w M.laid) fun u5 M => ?_
 refine pV 16 (.tuple #[.string (nmP (kdP s)), .int .u16 (shP (kdP s))]) ?_
 refine pV 23 (.string (nmP (kdP s))) ?_
 refine pV 24 (.int .u16 (shP (kdP s))) ?_
 refine pV 25 (.pointer (some ⟨g2, 0, none⟩)) ?_
 refine pV 26 (.pointer (some ⟨g2, 1, none⟩)) ?_
 refine pP M 1 rfl 1 (.int .u16 (shP (kdP s))) (ls [.int .u8 (kdP s), .int .u16 (shP (kdP s)), .pointer (some ⟨g1, 0, none⟩), .int .i64 0]) (by decide) (put_ls _ 1 _ _ rfl) fun u6 M => ?_
 replace M : Mem ⟨w, []⟩ [⟨g1, .cells (av 3 (ls [.bool true, .string (tkS s 0 1), .int .i64 (tkF s 0 1)])) 112⟩, ⟨g2, .cells (av 4 (ls [.int .u8 (kdP s), .int .u16 (shP (kdP s)), .pointer (some ⟨g1, 0, none⟩), .int .i64 0])) 73⟩] u6 := M
 refine nT ?_
 refine sR ?_
 refine pV 27 (.pointer (some ⟨g2, 0, none⟩)) ?_
 refine pV 28 (.pointer (some ⟨g2, 0, none⟩)) ?_
 refine pV 29 (.pointer (some ⟨g2, 0, none⟩)) ?_
 refine pV 30 (.pointer (some ⟨g2, 1, none⟩)) ?_
 refine pEz M 31 g2 1 (.int .u16 (shP (kdP s))) (fun w M => M.cell 1 rfl (by decide) rfl) ?_
 by_cases c0 : (shP (kdP s)) = 0
 ·skip
  refine pH 32 (.bool true) (dTz ((shP (kdP s)) = 0) (c0)) ?_
  refine pl_call2 M (want_no rfl) (some 33) rfl 51 #[.pointer (some ⟨g2, 0, none⟩), .bool true, .int .i64 150] (.tuple #[]) 1 0 g2 g1 (.cells (av 4 (ls [.int .u8 (kdP s), .int .u16 (shP (kdP s)), .pointer (some ⟨g1, 0, none⟩), .int .i64 0])) 73) (.cells (av 3 (ls [.bool true, .string (tkS s 0 1), .int .i64 (tkF s 0 1)])) 112) (.cells (av 4 (ls [.int .u8 (kdP s), .int .u16 (shP (kdP s)), .pointer (some ⟨g1, 0, none⟩), .int .i64 (rfR ⟨(tkS s 0 1), (tkF s 0 1), 0⟩ 150).e])) 73) (.cells (av 3 (ls [.bool true, .string (tkS s 0 1), .int .i64 (tkF s 0 1)])) 112) rfl rfl (fun _ => by kernel_rfl) (fun w M => r_refT g2 g1 (kdP s) (shP (kdP s)) ⟨(tkS s 0 1), (tkF s 0 1), 0⟩ 150 w M.laid (M.get 1 rfl) (M.get 0 rfl) (nodup_at M.nodup (i := 1) (j := 0) rfl rfl (by decide))) fun u7 M => ?_
  replace M : Mem ⟨w, []⟩ [⟨g1, .cells (av 3 (ls [.bool true, .string (tkS s 0 1), .int .i64 (tkF s 0 1)])) 112⟩, ⟨g2, .cells (av 4 (ls [.int .u8 (kdP s), .int .u16 (shP (kdP s)), .pointer (some ⟨g1, 0, none⟩), .int .i64 (rfR ⟨(tkS s 0 1), (tkF s 0 1), 0⟩ 150).e])) 73⟩] u7 := M
  refine nT ?_
  refine sR ?_
  refine pV 34 (.pointer (some ⟨g2, 0, none⟩)) ?_
  refine pV 2 (.pointer (some ⟨g2, 0, none⟩)) ?_
  refine nT ?_
  refine wp_ret ?_
  have e0 : r0P s = rfR ⟨tkS s 0 1, tkF s 0 1, 0⟩ 150 := if_pos c0
  exact bodyPost_ret (v := .pointer (some ⟨g2, 0, none⟩)) (results_tmp1 Try.results31 _ _ _ (by kernel_rfl)) (by kernel_rfl) ⟨g2, g1, _, _, rfl, ⟨by rw [e0], by rw [e0]; rfl⟩, M.geAt 1 rfl, M.geAt 0 rfl, nodup_at M.nodup (i := 1) (j := 0) rfl rfl (by decide), M.get 1 rfl, M.get 0 rfl, below_grown M.old⟩
 ·skip
  refine pH 32 (.bool false) (dF ((shP (kdP s)) = 0) (c0)) ?_
  refine pC M 33 51 #[.pointer (some ⟨g2, 0, none⟩), .bool false, .int .i64 150] (.tuple #[]) (fun w M => r_refF g2 g1 (kdP s) (shP (kdP s)) ⟨(tkS s 0 1), (tkF s 0 1), 0⟩ 150 w M.laid (M.get 1 rfl) (M.get 0 rfl) (nodup_at M.nodup (i := 1) (j := 0) rfl rfl (by decide))) fun u7 M => ?_
  refine nT ?_
  refine sR ?_
  refine pV 34 (.pointer (some ⟨g2, 0, none⟩)) ?_
  refine pV 2 (.pointer (some ⟨g2, 0, none⟩)) ?_
  refine nT ?_
  refine wp_ret ?_
  have e0 : r0P s = ⟨tkS s 0 1, tkF s 0 1, 0⟩ := if_neg c0
  exact bodyPost_ret (v := .pointer (some ⟨g2, 0, none⟩)) (results_tmp1 Try.results31 _ _ _ (by kernel_rfl)) (by kernel_rfl) ⟨g2, g1, _, _, rfl, ⟨by rw [e0], by rw [e0]⟩, M.geAt 1 rfl, M.geAt 0 rfl, nodup_at M.nodup (i := 1) (j := 0) rfl rfl (by decide), M.get 1 rfl, M.get 0 rfl, below_grown M.old⟩
set_option maxRecDepth 100000 in
set_option maxHeartbeats 4000000 in
set_option linter.unusedSimpArgs false in
theorem c_Decode (s : ByteArray) (w : World) (hL : Laid w)  :
  Calls Try.prog 18 #[.string s] w fun r w' => r = .returned (.tuple #[.agg (av 17 (ls [.int .u8 (deM s).ty, .string (deM s).fr, .string (deM s).tq, .int .u32 (deM s).ix, .int .u32 (deM s).pe, .int .u64 (deM s).ct, .int .u64 (deM s).ba, .int .u64 (deM s).ve, .string (deM s).tx, .bool ((deM s).ev), .int .u64 (deM s).eh, .int .u64 (deM s).el, .int .u16 (deM s).ep, .int .u16 (deM s).co, .string (deM s).tt, .string (deM s).da, .string (deM s).sg])), .int .i64 (deE s)]) ∧ Below w.heap.size w w' := by
 go_enter Try.func18, Try.ntmps18
 have M := Mem.start hL
 refine sR ?_
 refine pN M 2 (.cells (av 17 (ls [.int .u8 0, .string ⟨#[]⟩, .string ⟨#[]⟩, .int .u32 0, .int .u32 0, .int .u64 0, .int .u64 0, .int .u64 0, .string ⟨#[]⟩, .bool false, .int .u64 0, .int .u64 0, .int .u16 0, .int .u16 0, .string ⟨#[]⟩, .string ⟨#[]⟩, .string ⟨#[]⟩])) 30) fun g1 u1 M => ?_
 replace M : Mem ⟨w, []⟩ [⟨g1, .cells (av 17 (ls [.int .u8 0, .string ⟨#[]⟩, .string ⟨#[]⟩, .int .u32 0, .int .u32 0, .int .u64 0, .int .u64 0, .int .u64 0, .string ⟨#[]⟩, .bool false, .int .u64 0, .int .u64 0, .int .u16 0, .int .u16 0, .string ⟨#[]⟩, .string ⟨#[]⟩, .string ⟨#[]⟩])) 30⟩] u1 := M
 refine pV 3 (.int .i64 0) ?_
 refine nT ?_
 refine sR ?_
 refine pV 7 (.string s) ?_
 refine pl_callm2 M (want_no rfl) (some 8) rfl 31 #[.string s] (fun g => .pointer (some ⟨g, 0, none⟩)) (fun g k Z Y => Z = .cells (av 4 (ls [.int .u8 (kdP s), .int .u16 (shP (kdP s)), .pointer (some ⟨k, 0, none⟩), .int .i64 (r0P s).e])) 73 ∧ Y = .cells (av 3 (ls [.bool true, .string (r0P s).s, .int .i64 (r0P s).f])) 112) (fun _ => by kernel_rfl) (fun w M => c_readerOf s w M.laid) ?_
 intro g7 k7 Z7 Y7 u2 hW7 M
 obtain ⟨rfl, rfl⟩ := hW7
 replace M : Mem ⟨w, []⟩ [⟨g1, .cells (av 17 (ls [.int .u8 0, .string ⟨#[]⟩, .string ⟨#[]⟩, .int .u32 0, .int .u32 0, .int .u64 0, .int .u64 0, .int .u64 0, .string ⟨#[]⟩, .bool false, .int .u64 0, .int .u64 0, .int .u16 0, .int .u16 0, .string ⟨#[]⟩, .string ⟨#[]⟩, .string ⟨#[]⟩])) 30⟩, ⟨g7, .cells (av 4 (ls [.int .u8 (kdP s), .int .u16 (shP (kdP s)), .pointer (some ⟨k7, 0, none⟩), .int .i64 (r0P s).e])) 73⟩, ⟨k7, .cells (av 3 (ls [.bool true, .string (r0P s).s, .int .i64 (r0P s).f])) 112⟩] u2 := M
 refine pV 4 (.pointer (some ⟨g7, 0, none⟩)) ?_
 refine nT ?_
 refine sR ?_
 refine pV 9 (.pointer (some ⟨g7, 0, none⟩)) ?_
 refine pV 10 (.pointer (some ⟨g7, 0, none⟩)) ?_
 refine pV 11 (.pointer (some ⟨g7, 0, none⟩)) ?_
 refine pEz M 12 g7 0 (.int .u8 (kdP s)) (fun w M => M.cell 1 rfl (by decide) rfl) ?_
 refine pV 13 (.agg (av 17 (ls [.int .u8 (kdP s), .string ⟨#[]⟩, .string ⟨#[]⟩, .int .u32 0, .int .u32 0, .int .u64 0, .int .u64 0, .int .u64 0, .string ⟨#[]⟩, .bool false, .int .u64 0, .int .u64 0, .int .u16 0, .int .u16 0, .string ⟨#[]⟩, .string ⟨#[]⟩, .string ⟨#[]⟩]))) ?_
 refine pV 14 (.pointer (some ⟨g7, 0, none⟩)) ?_
 refine pV 15 (.func (.func 32) #[.pointer (some ⟨g7, 0, none⟩)] #[]) ?_
 have hne7 := nodup_at M.nodup (i := 1) (j := 2) rfl rfl (by decide)
 refine pl_callT (L := [⟨g1, .cells (av 17 (ls [.int .u8 0, .string ⟨#[]⟩, .string ⟨#[]⟩, .int .u32 0, .int .u32 0, .int .u64 0, .int .u64 0, .int .u64 0, .string ⟨#[]⟩, .bool false, .int .u64 0, .int .u64 0, .int .u16 0, .int .u16 0, .string ⟨#[]⟩, .string ⟨#[]⟩, .string ⟨#[]⟩])) 30⟩]) (T := [⟨g7, .cells (av 4 (ls [.int .u8 (kdP s), .int .u16 (shP (kdP s)), .pointer (some ⟨k7, 0, none⟩), .int .i64 (r0P s).e])) 73⟩, ⟨k7, .cells (av 3 (ls [.bool true, .string (r0P s).s, .int .i64 (r0P s).f])) 112⟩]) M (want_no rfl) (some 16) rfl 21 #[.agg (av 17 (ls [.int .u8 (kdP s), .string ⟨#[]⟩, .string ⟨#[]⟩, .int .u32 0, .int .u32 0, .int .u64 0, .int .u64 0, .int .u64 0, .string ⟨#[]⟩, .bool false, .int .u64 0, .int .u64 0, .int .u16 0, .int .u16 0, .string ⟨#[]⟩, .string ⟨#[]⟩, .string ⟨#[]⟩])), .func (.func 32) #[.pointer (some ⟨g7, 0, none⟩)] #[]] (.agg (av 17 (mgL (outM (m0 (kdP s)) (rdO (shP (kdP s)) (r0P s)))))) (fun T' => T' = [⟨g7, .cells (av 4 (ls [.int .u8 (kdP s), .int .u16 (shP (kdP s)), .pointer (some ⟨k7, 0, none⟩), .int .i64 (rdK (shP (kdP s)) (r0P s) 13).e])) 73⟩, ⟨k7, .cells (av 3 (ls [.bool true, .string (rdK (shP (kdP s)) (r0P s) 13).s, .int .i64 (rdK (shP (kdP s)) (r0P s) 13).f])) 112⟩]) (fun _ => by kernel_rfl) (fun w h1 h2 => c_through 32 _ (m0 (kdP s)) (rdO (shP (kdP s)) (r0P s)) _ (fun k T' => T' = [⟨g7, .cells (av 4 (ls [.int .u8 (kdP s), .int .u16 (shP (kdP s)), .pointer (some ⟨k7, 0, none⟩), .int .i64 (rdK (shP (kdP s)) (r0P s) k).e])) 73⟩, ⟨k7, .cells (av 3 (ls [.bool true, .string (rdK (shP (kdP s)) (r0P s) k).s, .int .i64 (rdK (shP (kdP s)) (r0P s) k).f])) 112⟩]) fn32 rfl (st_rd g7 k7 (kdP s) (shP (kdP s)) (r0P s) hne7 (m0 (kdP s))) w trivial h1 h2) ?_
 intro T9 u3 hT9 M
 subst hT9
 replace M : Mem ⟨w, []⟩ [⟨g1, .cells (av 17 (ls [.int .u8 0, .string ⟨#[]⟩, .string ⟨#[]⟩, .int .u32 0, .int .u32 0, .int .u64 0, .int .u64 0, .int .u64 0, .string ⟨#[]⟩, .bool false, .int .u64 0, .int .u64 0, .int .u16 0, .int .u16 0, .string ⟨#[]⟩, .string ⟨#[]⟩, .string ⟨#[]⟩])) 30⟩, ⟨g7, .cells (av 4 (ls [.int .u8 (kdP s), .int .u16 (shP (kdP s)), .pointer (some ⟨k7, 0, none⟩), .int .i64 (rdK (shP (kdP s)) (r0P s) 13).e])) 73⟩, ⟨k7, .cells (av 3 (ls [.bool true, .string (rdK (shP (kdP s)) (r0P s) 13).s, .int .i64 (rdK (shP (kdP s)) (r0P s) 13).f])) 112⟩] u3 := M
 refine pN M 5 (.cells (av 17 (ls [.int .u8 0, .string ⟨#[]⟩, .string ⟨#[]⟩, .int .u32 0, .int .u32 0, .int .u64 0, .int .u64 0, .int .u64 0, .string ⟨#[]⟩, .bool false, .int .u64 0, .int .u64 0, .int .u16 0, .int .u16 0, .string ⟨#[]⟩, .string ⟨#[]⟩, .string ⟨#[]⟩])) 30) fun g2 u4 M => ?_
 replace M : Mem ⟨w, []⟩ [⟨g1, .cells (av 17 (ls [.int .u8 0, .string ⟨#[]⟩, .string ⟨#[]⟩, .int .u32 0, .int .u32 0, .int .u64 0, .int .u64 0, .int .u64 0, .string ⟨#[]⟩, .bool false, .int .u64 0, .int .u64 0, .int .u16 0, .int .u16 0, .string ⟨#[]⟩, .string ⟨#[]⟩, .string ⟨#[]⟩])) 30⟩, ⟨g7, .cells (av 4 (ls [.int .u8 (kdP s), .int .u16 (shP (kdP s)), .pointer (some ⟨k7, 0, none⟩), .int .i64 (rdK (shP (kdP s)) (r0P s) 13).e])) 73⟩, ⟨k7, .cells (av 3 (ls [.bool true, .string (rdK (shP (kdP s)) (r0P s) 13).s, .int .i64 (rdK (shP (kdP s)) (r0P s) 13).f])) 112⟩, ⟨g2, .cells (av 17 (ls [.int .u8 0, .string ⟨#[]⟩, .string ⟨#[]⟩, .int .u32 0, .int .u32 0, .int .u64 0, .int .u64 0, .int .u64 0, .string ⟨#[]⟩, .bool false, .int .u64 0, .int .u64 0, .int .u16 0, .int .u16 0, .string ⟨#[]⟩, .string ⟨#[]⟩, .string ⟨#[]⟩])) 30⟩] u4 := M
 refine pl_put M (want_no rfl) rfl 30 _ _ rfl 3 g2 0 (by kernel_rfl) 17 30 (ls [.int .u8 0, .string ⟨#[]⟩, .string ⟨#[]⟩, .int .u32 0, .int .u32 0, .int .u64 0, .int .u64 0, .int .u64 0, .string ⟨#[]⟩, .bool false, .int .u64 0, .int .u64 0, .int .u16 0, .int .u16 0, .string ⟨#[]⟩, .string ⟨#[]⟩, .string ⟨#[]⟩]) rfl 17 (ls [.int .u8 (outM (m0 (kdP s)) (rdO (shP (kdP s)) (r0P s))).ty, .string (outM (m0 (kdP s)) (rdO (shP (kdP s)) (r0P s))).fr, .string (outM (m0 (kdP s)) (rdO (shP (kdP s)) (r0P s))).tq, .int .u32 (outM (m0 (kdP s)) (rdO (shP (kdP s)) (r0P s))).ix, .int .u32 (outM (m0 (kdP s)) (rdO (shP (kdP s)) (r0P s))).pe, .int .u64 (outM (m0 (kdP s)) (rdO (shP (kdP s)) (r0P s))).ct, .int .u64 (outM (m0 (kdP s)) (rdO (shP (kdP s)) (r0P s))).ba, .int .u64 (outM (m0 (kdP s)) (rdO (shP (kdP s)) (r0P s))).ve, .string (outM (m0 (kdP s)) (rdO (shP (kdP s)) (r0P s))).tx, .bool ((outM (m0 (kdP s)) (rdO (shP (kdP s)) (r0P s))).ev), .int .u64 (outM (m0 (kdP s)) (rdO (shP (kdP s)) (r0P s))).eh, .int .u64 (outM (m0 (kdP s)) (rdO (shP (kdP s)) (r0P s))).el, .int .u16 (outM (m0 (kdP s)) (rdO (shP (kdP s)) (r0P s))).ep, .int .u16 (outM (m0 (kdP s)) (rdO (shP (kdP s)) (r0P s))).co, .string (outM (m0 (kdP s)) (rdO (shP (kdP s)) (r0P s))).tt, .string (outM (m0 (kdP s)) (rdO (shP (kdP s)) (r0P s))).da, .string (outM (m0 (kdP s)) (rdO (shP (kdP s)) (r0P s))).sg]) (ls [.int .u8 (outM (m0 (kdP s)) (rdO (shP (kdP s)) (r0P s))).ty, .string (outM (m0 (kdP s)) (rdO (shP (kdP s)) (r0P s))).fr, .string (outM (m0 (kdP s)) (rdO (shP (kdP s)) (r0P s))).tq, .int .u32 (outM (m0 (kdP s)) (rdO (shP (kdP s)) (r0P s))).ix, .int .u32 (outM (m0 (kdP s)) (rdO (shP (kdP s)) (r0P s))).pe, .int .u64 (outM (m0 (kdP s)) (rdO (shP (kdP s)) (r0P s))).ct, .int .u64 (outM (m0 (kdP s)) (rdO (shP (kdP s)) (r0P s))).ba, .int .u64 (outM (m0 (kdP s)) (rdO (shP (kdP s)) (r0P s))).ve, .string (outM (m0 (kdP s)) (rdO (shP (kdP s)) (r0P s))).tx, .bool ((outM (m0 (kdP s)) (rdO (shP (kdP s)) (r0P s))).ev), .int .u64 (outM (m0 (kdP s)) (rdO (shP (kdP s)) (r0P s))).eh, .int .u64 (outM (m0 (kdP s)) (rdO (shP (kdP s)) (r0P s))).el, .int .u16 (outM (m0 (kdP s)) (rdO (shP (kdP s)) (r0P s))).ep, .int .u16 (outM (m0 (kdP s)) (rdO (shP (kdP s)) (r0P s))).co, .string (outM (m0 (kdP s)) (rdO (shP (kdP s)) (r0P s))).tt, .string (outM (m0 (kdP s)) (rdO (shP (kdP s)) (r0P s))).da, .string (outM (m0 (kdP s)) (rdO (shP (kdP s)) (r0P s))).sg]) (by kernel_rfl) inz30 (by decide) (one_ls _ rfl) (fun j hj => by rw [if_pos (by omega), Nat.sub_zero]) fun u5 M => ?_
 replace M : Mem ⟨w, []⟩ [⟨g1, .cells (av 17 (ls [.int .u8 0, .string ⟨#[]⟩, .string ⟨#[]⟩, .int .u32 0, .int .u32 0, .int .u64 0, .int .u64 0, .int .u64 0, .string ⟨#[]⟩, .bool false, .int .u64 0, .int .u64 0, .int .u16 0, .int .u16 0, .string ⟨#[]⟩, .string ⟨#[]⟩, .string ⟨#[]⟩])) 30⟩, ⟨g7, .cells (av 4 (ls [.int .u8 (kdP s), .int .u16 (shP (kdP s)), .pointer (some ⟨k7, 0, none⟩), .int .i64 (rdK (shP (kdP s)) (r0P s) 13).e])) 73⟩, ⟨k7, .cells (av 3 (ls [.bool true, .string (rdK (shP (kdP s)) (r0P s) 13).s, .int .i64 (rdK (shP (kdP s)) (r0P s) 13).f])) 112⟩, ⟨g2, .cells (av 17 (ls [.int .u8 (outM (m0 (kdP s)) (rdO (shP (kdP s)) (r0P s))).ty, .string (outM (m0 (kdP s)) (rdO (shP (kdP s)) (r0P s))).fr, .string (outM (m0 (kdP s)) (rdO (shP (kdP s)) (r0P s))).tq, .int .u32 (outM (m0 (kdP s)) (rdO (shP (kdP s)) (r0P s))).ix, .int .u32 (outM (m0 (kdP s)) (rdO (shP (kdP s)) (r0P s))).pe, .int .u64 (outM (m0 (kdP s)) (rdO (shP (kdP s)) (r0P s))).ct, .int .u64 (outM (m0 (kdP s)) (rdO (shP (kdP s)) (r0P s))).ba, .int .u64 (outM (m0 (kdP s)) (rdO (shP (kdP s)) (r0P s))).ve, .string (outM (m0 (kdP s)) (rdO (shP (kdP s)) (r0P s))).tx, .bool ((outM (m0 (kdP s)) (rdO (shP (kdP s)) (r0P s))).ev), .int .u64 (outM (m0 (kdP s)) (rdO (shP (kdP s)) (r0P s))).eh, .int .u64 (outM (m0 (kdP s)) (rdO (shP (kdP s)) (r0P s))).el, .int .u16 (outM (m0 (kdP s)) (rdO (shP (kdP s)) (r0P s))).ep, .int .u16 (outM (m0 (kdP s)) (rdO (shP (kdP s)) (r0P s))).co, .string (outM (m0 (kdP s)) (rdO (shP (kdP s)) (r0P s))).tt, .string (outM (m0 (kdP s)) (rdO (shP (kdP s)) (r0P s))).da, .string (outM (m0 (kdP s)) (rdO (shP (kdP s)) (r0P s))).sg])) 30⟩] u5 := M
 refine nT ?_
 refine wp_seq ?_
 refine sR ?_
 refine pV 17 (.pointer (some ⟨g7, 0, none⟩)) ?_
 refine pC M 18 33 #[.pointer (some ⟨g7, 0, none⟩)] (.int .i64 (deE s)) (fun w M => r_end g7 k7 (kdP s) (shP (kdP s)) (rdK (shP (kdP s)) (r0P s) 13) w M.laid (M.get 1 rfl) (M.get 2 rfl) (nodup_at M.nodup (i := 1) (j := 2) rfl rfl (by decide))) fun u6 M => ?_
 refine pV 6 (.int .i64 (deE s)) ?_
 refine nT ?_
 refine sR ?_
 refine pV 19 (.int .i64 (deE s)) ?_
 by_cases c0 : (deE s) = 0
 ·skip
  refine pH 20 (.bool false) (nF ((deE s) = 0) (c0)) ?_
  refine nT ?_
  refine wp_cond_false (by kernel_rfl) ?_
  refine wp_skip ?_
  refine au_then ?_
  refine sR ?_
  refine pAz M 23 3 17 (ls [.int .u8 (outM (m0 (kdP s)) (rdO (shP (kdP s)) (r0P s))).ty, .string (outM (m0 (kdP s)) (rdO (shP (kdP s)) (r0P s))).fr, .string (outM (m0 (kdP s)) (rdO (shP (kdP s)) (r0P s))).tq, .int .u32 (outM (m0 (kdP s)) (rdO (shP (kdP s)) (r0P s))).ix, .int .u32 (outM (m0 (kdP s)) (rdO (shP (kdP s)) (r0P s))).pe, .int .u64 (outM (m0 (kdP s)) (rdO (shP (kdP s)) (r0P s))).ct, .int .u64 (outM (m0 (kdP s)) (rdO (shP (kdP s)) (r0P s))).ba, .int .u64 (outM (m0 (kdP s)) (rdO (shP (kdP s)) (r0P s))).ve, .string (outM (m0 (kdP s)) (rdO (shP (kdP s)) (r0P s))).tx, .bool ((outM (m0 (kdP s)) (rdO (shP (kdP s)) (r0P s))).ev), .int .u64 (outM (m0 (kdP s)) (rdO (shP (kdP s)) (r0P s))).eh, .int .u64 (outM (m0 (kdP s)) (rdO (shP (kdP s)) (r0P s))).el, .int .u16 (outM (m0 (kdP s)) (rdO (shP (kdP s)) (r0P s))).ep, .int .u16 (outM (m0 (kdP s)) (rdO (shP (kdP s)) (r0P s))).co, .string (outM (m0 (kdP s)) (rdO (shP (kdP s)) (r0P s))).tt, .string (outM (m0 (kdP s)) (rdO (shP (kdP s)) (r0P s))).da, .string (outM (m0 (kdP s)) (rdO (shP (kdP s)) (r0P s))).sg]) ?_
  refine pl_put M (want_no rfl) rfl 30 _ _ rfl 0 g1 0 (by kernel_rfl) 17 30 (ls [.int .u8 0, .string ⟨#[]⟩, .string ⟨#[]⟩, .int .u32 0, .int .u32 0, .int .u64 0, .int .u64 0, .int .u64 0, .string ⟨#[]⟩, .bool false, .int .u64 0, .int .u64 0, .int .u16 0, .int .u16 0, .string ⟨#[]⟩, .string ⟨#[]⟩, .string ⟨#[]⟩]) rfl 17 (ls [.int .u8 (outM (m0 (kdP s)) (rdO (shP (kdP s)) (r0P s))).ty, .string (outM (m0 (kdP s)) (rdO (shP (kdP s)) (r0P s))).fr, .string (outM (m0 (kdP s)) (rdO (shP (kdP s)) (r0P s))).tq, .int .u32 (outM (m0 (kdP s)) (rdO (shP (kdP s)) (r0P s))).ix, .int .u32 (outM (m0 (kdP s)) (rdO (shP (kdP s)) (r0P s))).pe, .int .u64 (outM (m0 (kdP s)) (rdO (shP (kdP s)) (r0P s))).ct, .int .u64 (outM (m0 (kdP s)) (rdO (shP (kdP s)) (r0P s))).ba, .int .u64 (outM (m0 (kdP s)) (rdO (shP (kdP s)) (r0P s))).ve, .string (outM (m0 (kdP s)) (rdO (shP (kdP s)) (r0P s))).tx, .bool ((outM (m0 (kdP s)) (rdO (shP (kdP s)) (r0P s))).ev), .int .u64 (outM (m0 (kdP s)) (rdO (shP (kdP s)) (r0P s))).eh, .int .u64 (outM (m0 (kdP s)) (rdO (shP (kdP s)) (r0P s))).el, .int .u16 (outM (m0 (kdP s)) (rdO (shP (kdP s)) (r0P s))).ep, .int .u16 (outM (m0 (kdP s)) (rdO (shP (kdP s)) (r0P s))).co, .string (outM (m0 (kdP s)) (rdO (shP (kdP s)) (r0P s))).tt, .string (outM (m0 (kdP s)) (rdO (shP (kdP s)) (r0P s))).da, .string (outM (m0 (kdP s)) (rdO (shP (kdP s)) (r0P s))).sg]) (ls [.int .u8 (outM (m0 (kdP s)) (rdO (shP (kdP s)) (r0P s))).ty, .string (outM (m0 (kdP s)) (rdO (shP (kdP s)) (r0P s))).fr, .string (outM (m0 (kdP s)) (rdO (shP (kdP s)) (r0P s))).tq, .int .u32 (outM (m0 (kdP s)) (rdO (shP (kdP s)) (r0P s))).ix, .int .u32 (outM (m0 (kdP s)) (rdO (shP (kdP s)) (r0P s))).pe, .int .u64 (outM (m0 (kdP s)) (rdO (shP (kdP s)) (r0P s))).ct, .int .u64 (outM (m0 (kdP s)) (rdO (shP (kdP s)) (r0P s))).ba, .int .u64 (outM (m0 (kdP s)) (rdO (shP (kdP s)) (r0P s))).ve, .string (outM (m0 (kdP s)) (rdO (shP (kdP s)) (r0P s))).tx, .bool ((outM (m0 (kdP s)) (rdO (shP (kdP s)) (r0P s))).ev), .int .u64 (outM (m0 (kdP s)) (rdO (shP (kdP s)) (r0P s))).eh, .int .u64 (outM (m0 (kdP s)) (rdO (shP (kdP s)) (r0P s))).el, .int .u16 (outM (m0 (kdP s)) (rdO (shP (kdP s)) (r0P s))).ep, .int .u16 (outM (m0 (kdP s)) (rdO (shP (kdP s)) (r0P s))).co, .string (outM (m0 (kdP s)) (rdO (shP (kdP s)) (r0P s))).tt, .string (outM (m0 (kdP s)) (rdO (shP (kdP s)) (r0P s))).da, .string (outM (m0 (kdP s)) (rdO (shP (kdP s)) (r0P s))).sg]) (by kernel_rfl) inz30 (by decide) (one_ls _ rfl) (fun j hj => by rw [if_pos (by omega), Nat.sub_zero]) fun u7 M => ?_
  replace M : Mem ⟨w, []⟩ [⟨g1, .cells (av 17 (ls [.int .u8 (outM (m0 (kdP s)) (rdO (shP (kdP s)) (r0P s))).ty, .string (outM (m0 (kdP s)) (rdO (shP (kdP s)) (r0P s))).fr, .string (outM (m0 (kdP s)) (rdO (shP (kdP s)) (r0P s))).tq, .int .u32 (outM (m0 (kdP s)) (rdO (shP (kdP s)) (r0P s))).ix, .int .u32 (outM (m0 (kdP s)) (rdO (shP (kdP s)) (r0P s))).pe, .int .u64 (outM (m0 (kdP s)) (rdO (shP (kdP s)) (r0P s))).ct, .int .u64 (outM (m0 (kdP s)) (rdO (shP (kdP s)) (r0P s))).ba, .int .u64 (outM (m0 (kdP s)) (rdO (shP (kdP s)) (r0P s))).ve, .string (outM (m0 (kdP s)) (rdO (shP (kdP s)) (r0P s))).tx, .bool ((outM (m0 (kdP s)) (rdO (shP (kdP s)) (r0P s))).ev), .int .u64 (outM (m0 (kdP s)) (rdO (shP (kdP s)) (r0P s))).eh, .int .u64 (outM (m0 (kdP s)) (rdO (shP (kdP s)) (r0P s))).el, .int .u16 (outM (m0 (kdP s)) (rdO (shP (kdP s)) (r0P s))).ep, .int .u16 (outM (m0 (kdP s)) (rdO (shP (kdP s)) (r0P s))).co, .string (outM (m0 (kdP s)) (rdO (shP (kdP s)) (r0P s))).tt, .string (outM (m0 (kdP s)) (rdO (shP (kdP s)) (r0P s))).da, .string (outM (m0 (kdP s)) (rdO (shP (kdP s)) (r0P s))).sg])) 30⟩, ⟨g7, .cells (av 4 (ls [.int .u8 (kdP s), .int .u16 (shP (kdP s)), .pointer (some ⟨k7, 0, none⟩), .int .i64 (rdK (shP (kdP s)) (r0P s) 13).e])) 73⟩, ⟨k7, .cells (av 3 (ls [.bool true, .string (rdK (shP (kdP s)) (r0P s) 13).s, .int .i64 (rdK (shP (kdP s)) (r0P s) 13).f])) 112⟩, ⟨g2, .cells (av 17 (ls [.int .u8 (outM (m0 (kdP s)) (rdO (shP (kdP s)) (r0P s))).ty, .string (outM (m0 (kdP s)) (rdO (shP (kdP s)) (r0P s))).fr, .string (outM (m0 (kdP s)) (rdO (shP (kdP s)) (r0P s))).tq, .int .u32 (outM (m0 (kdP s)) (rdO (shP (kdP s)) (r0P s))).ix, .int .u32 (outM (m0 (kdP s)) (rdO (shP (kdP s)) (r0P s))).pe, .int .u64 (outM (m0 (kdP s)) (rdO (shP (kdP s)) (r0P s))).ct, .int .u64 (outM (m0 (kdP s)) (rdO (shP (kdP s)) (r0P s))).ba, .int .u64 (outM (m0 (kdP s)) (rdO (shP (kdP s)) (r0P s))).ve, .string (outM (m0 (kdP s)) (rdO (shP (kdP s)) (r0P s))).tx, .bool ((outM (m0 (kdP s)) (rdO (shP (kdP s)) (r0P s))).ev), .int .u64 (outM (m0 (kdP s)) (rdO (shP (kdP s)) (r0P s))).eh, .int .u64 (outM (m0 (kdP s)) (rdO (shP (kdP s)) (r0P s))).el, .int .u16 (outM (m0 (kdP s)) (rdO (shP (kdP s)) (r0P s))).ep, .int .u16 (outM (m0 (kdP s)) (rdO (shP (kdP s)) (r0P s))).co, .string (outM (m0 (kdP s)) (rdO (shP (kdP s)) (r0P s))).tt, .string (outM (m0 (kdP s)) (rdO (shP (kdP s)) (r0P s))).da, .string (outM (m0 (kdP s)) (rdO (shP (kdP s)) (r0P s))).sg])) 30⟩] u7 := M
  refine pV 3 (.int .i64 0) ?_
  refine nT ?_
  refine wp_ret ?_
  have e0 : (deM s).ty = (outM (m0 (kdP s)) (rdO (shP (kdP s)) (r0P s))).ty := by rw [deM, if_pos c0]
  have e1 : (deM s).fr = (outM (m0 (kdP s)) (rdO (shP (kdP s)) (r0P s))).fr := by rw [deM, if_pos c0]
  have e2 : (deM s).tq = (outM (m0 (kdP s)) (rdO (shP (kdP s)) (r0P s))).tq := by rw [deM, if_pos c0]
  have e3 : (deM s).ix = (outM (m0 (kdP s)) (rdO (shP (kdP s)) (r0P s))).ix := by rw [deM, if_pos c0]
  have e4 : (deM s).pe = (outM (m0 (kdP s)) (rdO (shP (kdP s)) (r0P s))).pe := by rw [deM, if_pos c0]
  have e5 : (deM s).ct = (outM (m0 (kdP s)) (rdO (shP (kdP s)) (r0P s))).ct := by rw [deM, if_pos c0]
  have e6 : (deM s).ba = (outM (m0 (kdP s)) (rdO (shP (kdP s)) (r0P s))).ba := by rw [deM, if_pos c0]
  have e7 : (deM s).ve = (outM (m0 (kdP s)) (rdO (shP (kdP s)) (r0P s))).ve := by rw [deM, if_pos c0]
  have e8 : (deM s).tx = (outM (m0 (kdP s)) (rdO (shP (kdP s)) (r0P s))).tx := by rw [deM, if_pos c0]
  have e9 : (deM s).ev = (outM (m0 (kdP s)) (rdO (shP (kdP s)) (r0P s))).ev := by rw [deM, if_pos c0]
  have e10 : (deM s).eh = (outM (m0 (kdP s)) (rdO (shP (kdP s)) (r0P s))).eh := by rw [deM, if_pos c0]
  have e11 : (deM s).el = (outM (m0 (kdP s)) (rdO (shP (kdP s)) (r0P s))).el := by rw [deM, if_pos c0]
  have e12 : (deM s).ep = (outM (m0 (kdP s)) (rdO (shP (kdP s)) (r0P s))).ep := by rw [deM, if_pos c0]
  have e13 : (deM s).co = (outM (m0 (kdP s)) (rdO (shP (kdP s)) (r0P s))).co := by rw [deM, if_pos c0]
  have e14 : (deM s).tt = (outM (m0 (kdP s)) (rdO (shP (kdP s)) (r0P s))).tt := by rw [deM, if_pos c0]
  have e15 : (deM s).da = (outM (m0 (kdP s)) (rdO (shP (kdP s)) (r0P s))).da := by rw [deM, if_pos c0]
  have e16 : (deM s).sg = (outM (m0 (kdP s)) (rdO (shP (kdP s)) (r0P s))).sg := by rw [deM, if_pos c0]
  have e17 : (deE s) = 0 := c0
  exact bodyPost_ret (v := .tuple #[.agg (av 17 (ls [.int .u8 (outM (m0 (kdP s)) (rdO (shP (kdP s)) (r0P s))).ty, .string (outM (m0 (kdP s)) (rdO (shP (kdP s)) (r0P s))).fr, .string (outM (m0 (kdP s)) (rdO (shP (kdP s)) (r0P s))).tq, .int .u32 (outM (m0 (kdP s)) (rdO (shP (kdP s)) (r0P s))).ix, .int .u32 (outM (m0 (kdP s)) (rdO (shP (kdP s)) (r0P s))).pe, .int .u64 (outM (m0 (kdP s)) (rdO (shP (kdP s)) (r0P s))).ct, .int .u64 (outM (m0 (kdP s)) (rdO (shP (kdP s)) (r0P s))).ba, .int .u64 (outM (m0 (kdP s)) (rdO (shP (kdP s)) (r0P s))).ve, .string (outM (m0 (kdP s)) (rdO (shP (kdP s)) (r0P s))).tx, .bool ((outM (m0 (kdP s)) (rdO (shP (kdP s)) (r0P s))).ev), .int .u64 (outM (m0 (kdP s)) (rdO (shP (kdP s)) (r0P s))).eh, .int .u64 (outM (m0 (kdP s)) (rdO (shP (kdP s)) (r0P s))).el, .int .u16 (outM (m0 (kdP s)) (rdO (shP (kdP s)) (r0P s))).ep, .int .u16 (outM (m0 (kdP s)) (rdO (shP (kdP s)) (r0P s))).co, .string (outM (m0 (kdP s)) (rdO (shP (kdP s)) (r0P s))).tt, .string (outM (m0 (kdP s)) (rdO (shP (kdP s)) (r0P s))).da, .string (outM (m0 (kdP s)) (rdO (shP (kdP s)) (r0P s))).sg])), .int .i64 0]) (results_cell_tmp Try.results18 _ _ g1 30 (av 17 (ls [.int .u8 (outM (m0 (kdP s)) (rdO (shP (kdP s)) (r0P s))).ty, .string (outM (m0 (kdP s)) (rdO (shP (kdP s)) (r0P s))).fr, .string (outM (m0 (kdP s)) (rdO (shP (kdP s)) (r0P s))).tq, .int .u32 (outM (m0 (kdP s)) (rdO (shP (kdP s)) (r0P s))).ix, .int .u32 (outM (m0 (kdP s)) (rdO (shP (kdP s)) (r0P s))).pe, .int .u64 (outM (m0 (kdP s)) (rdO (shP (kdP s)) (r0P s))).ct, .int .u64 (outM (m0 (kdP s)) (rdO (shP (kdP s)) (r0P s))).ba, .int .u64 (outM (m0 (kdP s)) (rdO (shP (kdP s)) (r0P s))).ve, .string (outM (m0 (kdP s)) (rdO (shP (kdP s)) (r0P s))).tx, .bool ((outM (m0 (kdP s)) (rdO (shP (kdP s)) (r0P s))).ev), .int .u64 (outM (m0 (kdP s)) (rdO (shP (kdP s)) (r0P s))).eh, .int .u64 (outM (m0 (kdP s)) (rdO (shP (kdP s)) (r0P s))).el, .int .u16 (outM (m0 (kdP s)) (rdO (shP (kdP s)) (r0P s))).ep, .int .u16 (outM (m0 (kdP s)) (rdO (shP (kdP s)) (r0P s))).co, .string (outM (m0 (kdP s)) (rdO (shP (kdP s)) (r0P s))).tt, .string (outM (m0 (kdP s)) (rdO (shP (kdP s)) (r0P s))).da, .string (outM (m0 (kdP s)) (rdO (shP (kdP s)) (r0P s))).sg])) (0, 0) _ _ (by kernel_rfl) (by kernel_rfl) (M.get 0 rfl) Try.underlying30 rfl (by rw [av_size]; exact inz30)) (by kernel_rfl) ⟨by rw [e0, e1, e2, e3, e4, e5, e6, e7, e8, e9, e10, e11, e12, e13, e14, e15, e16, e17], below_grown M.old⟩
 ·skip
  refine pH 20 (.bool true) (nU ((deE s) = 0) (c0)) ?_
  refine nT ?_
  refine wp_cond_true (by kernel_rfl) ?_
  refine sR ?_
  refine pV 21 (.agg (av 17 (ls [.int .u8 0, .string ⟨#[]⟩, .string ⟨#[]⟩, .int .u32 0, .int .u32 0, .int .u64 0, .int .u64 0, .int .u64 0, .string ⟨#[]⟩, .bool false, .int .u64 0, .int .u64 0, .int .u16 0, .int .u16 0, .string ⟨#[]⟩, .string ⟨#[]⟩, .string ⟨#[]⟩]))) ?_
  refine pV 22 (.int .i64 (deE s)) ?_
  refine pl_put M (want_no rfl) rfl 30 _ _ rfl 0 g1 0 (by kernel_rfl) 17 30 (ls [.int .u8 0, .string ⟨#[]⟩, .string ⟨#[]⟩, .int .u32 0, .int .u32 0, .int .u64 0, .int .u64 0, .int .u64 0, .string ⟨#[]⟩, .bool false, .int .u64 0, .int .u64 0, .int .u16 0, .int .u16 0, .string ⟨#[]⟩, .string ⟨#[]⟩, .string ⟨#[]⟩]) rfl 17 (ls [.int .u8 0, .string ⟨#[]⟩, .string ⟨#[]⟩, .int .u32 0, .int .u32 0, .int .u64 0, .int .u64 0, .int .u64 0, .string ⟨#[]⟩, .bool false, .int .u64 0, .int .u64 0, .int .u16 0, .int .u16 0, .string ⟨#[]⟩, .string ⟨#[]⟩, .string ⟨#[]⟩]) (ls [.int .u8 0, .string ⟨#[]⟩, .string ⟨#[]⟩, .int .u32 0, .int .u32 0, .int .u64 0, .int .u64 0, .int .u64 0, .string ⟨#[]⟩, .bool false, .int .u64 0, .int .u64 0, .int .u16 0, .int .u16 0, .string ⟨#[]⟩, .string ⟨#[]⟩, .string ⟨#[]⟩]) (by kernel_rfl) inz30 (by decide) (one_ls _ rfl) (fun j hj => by rw [if_pos (by omega), Nat.sub_zero]) fun u7 M => ?_
  replace M : Mem ⟨w, []⟩ [⟨g1, .cells (av 17 (ls [.int .u8 0, .string ⟨#[]⟩, .string ⟨#[]⟩, .int .u32 0, .int .u32 0, .int .u64 0, .int .u64 0, .int .u64 0, .string ⟨#[]⟩, .bool false, .int .u64 0, .int .u64 0, .int .u16 0, .int .u16 0, .string ⟨#[]⟩, .string ⟨#[]⟩, .string ⟨#[]⟩])) 30⟩, ⟨g7, .cells (av 4 (ls [.int .u8 (kdP s), .int .u16 (shP (kdP s)), .pointer (some ⟨k7, 0, none⟩), .int .i64 (rdK (shP (kdP s)) (r0P s) 13).e])) 73⟩, ⟨k7, .cells (av 3 (ls [.bool true, .string (rdK (shP (kdP s)) (r0P s) 13).s, .int .i64 (rdK (shP (kdP s)) (r0P s) 13).f])) 112⟩, ⟨g2, .cells (av 17 (ls [.int .u8 (outM (m0 (kdP s)) (rdO (shP (kdP s)) (r0P s))).ty, .string (outM (m0 (kdP s)) (rdO (shP (kdP s)) (r0P s))).fr, .string (outM (m0 (kdP s)) (rdO (shP (kdP s)) (r0P s))).tq, .int .u32 (outM (m0 (kdP s)) (rdO (shP (kdP s)) (r0P s))).ix, .int .u32 (outM (m0 (kdP s)) (rdO (shP (kdP s)) (r0P s))).pe, .int .u64 (outM (m0 (kdP s)) (rdO (shP (kdP s)) (r0P s))).ct, .int .u64 (outM (m0 (kdP s)) (rdO (shP (kdP s)) (r0P s))).ba, .int .u64 (outM (m0 (kdP s)) (rdO (shP (kdP s)) (r0P s))).ve, .string (outM (m0 (kdP s)) (rdO (shP (kdP s)) (r0P s))).tx, .bool ((outM (m0 (kdP s)) (rdO (shP (kdP s)) (r0P s))).ev), .int .u64 (outM (m0 (kdP s)) (rdO (shP (kdP s)) (r0P s))).eh, .int .u64 (outM (m0 (kdP s)) (rdO (shP (kdP s)) (r0P s))).el, .int .u16 (outM (m0 (kdP s)) (rdO (shP (kdP s)) (r0P s))).ep, .int .u16 (outM (m0 (kdP s)) (rdO (shP (kdP s)) (r0P s))).co, .string (outM (m0 (kdP s)) (rdO (shP (kdP s)) (r0P s))).tt, .string (outM (m0 (kdP s)) (rdO (shP (kdP s)) (r0P s))).da, .string (outM (m0 (kdP s)) (rdO (shP (kdP s)) (r0P s))).sg])) 30⟩] u7 := M
  refine pV 3 (.int .i64 (deE s)) ?_
  refine nT ?_
  refine wp_ret ?_
  refine au_then_ret ?_
  have e0 : (deM s).ty = 0 := by rw [deM, if_neg c0]; rfl
  have e1 : (deM s).fr = ⟨#[]⟩ := by rw [deM, if_neg c0]; rfl
  have e2 : (deM s).tq = ⟨#[]⟩ := by rw [deM, if_neg c0]; rfl
  have e3 : (deM s).ix = 0 := by rw [deM, if_neg c0]; rfl
  have e4 : (deM s).pe = 0 := by rw [deM, if_neg c0]; rfl
  have e5 : (deM s).ct = 0 := by rw [deM, if_neg c0]; rfl
  have e6 : (deM s).ba = 0 := by rw [deM, if_neg c0]; rfl
  have e7 : (deM s).ve = 0 := by rw [deM, if_neg c0]; rfl
  have e8 : (deM s).tx = ⟨#[]⟩ := by rw [deM, if_neg c0]; rfl
  have e9 : (deM s).ev = false := by rw [deM, if_neg c0]; rfl
  have e10 : (deM s).eh = 0 := by rw [deM, if_neg c0]; rfl
  have e11 : (deM s).el = 0 := by rw [deM, if_neg c0]; rfl
  have e12 : (deM s).ep = 0 := by rw [deM, if_neg c0]; rfl
  have e13 : (deM s).co = 0 := by rw [deM, if_neg c0]; rfl
  have e14 : (deM s).tt = ⟨#[]⟩ := by rw [deM, if_neg c0]; rfl
  have e15 : (deM s).da = ⟨#[]⟩ := by rw [deM, if_neg c0]; rfl
  have e16 : (deM s).sg = ⟨#[]⟩ := by rw [deM, if_neg c0]; rfl
  exact bodyPost_ret (v := .tuple #[.agg (av 17 (ls [.int .u8 0, .string ⟨#[]⟩, .string ⟨#[]⟩, .int .u32 0, .int .u32 0, .int .u64 0, .int .u64 0, .int .u64 0, .string ⟨#[]⟩, .bool false, .int .u64 0, .int .u64 0, .int .u16 0, .int .u16 0, .string ⟨#[]⟩, .string ⟨#[]⟩, .string ⟨#[]⟩])), .int .i64 (deE s)]) (results_cell_tmp Try.results18 _ _ g1 30 (av 17 (ls [.int .u8 0, .string ⟨#[]⟩, .string ⟨#[]⟩, .int .u32 0, .int .u32 0, .int .u64 0, .int .u64 0, .int .u64 0, .string ⟨#[]⟩, .bool false, .int .u64 0, .int .u64 0, .int .u16 0, .int .u16 0, .string ⟨#[]⟩, .string ⟨#[]⟩, .string ⟨#[]⟩])) (0, 0) _ _ (by kernel_rfl) (by kernel_rfl) (M.get 0 rfl) Try.underlying30 rfl (by rw [av_size]; exact inz30)) (by kernel_rfl) ⟨by rw [e0, e1, e2, e3, e4, e5, e6, e7, e8, e9, e10, e11, e12, e13, e14, e15, e16], below_grown M.old⟩
end Go.Proofs.Ytbechjlkmajcoaa
