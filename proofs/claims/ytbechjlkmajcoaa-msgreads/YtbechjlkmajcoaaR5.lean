/- Encode: the walk. -/
import Derived.Test.YtbechjlkmajcoaaR4
namespace Go.Proofs.Ytbechjlkmajcoaa
open Go.RowKit

/-- An end's bytes; a field's. -/
def enB (v : Bool) (h l p : Int) : ByteArray := if v = true then (((bs [6] ++ be8 h) ++ be8 l) ++ be2 (cv .u64 p)) else ((bs [4] ++ be4 (cv .u64 (cv .u32 l))) ++ be2 (cv .u64 p))
def byF (o : Int) (v : Vl) : ByteArray := if o = 4 then be4 (cv .u64 (cv .u32 v.n)) else if o = 8 then be4 (cv .u64 (cv .u32 v.n)) else if o = 16 then be8 v.n else if o = 32 then be8 v.n else if o = 64 then be8 v.n else if o = 512 then be2 (cv .u64 (cv .u16 v.n)) else if o = 256 then enB v.v v.h v.l v.p else if o = 1024 then wtS v.t else if o = 2048 then wtS v.t else v.t
def wrF (x : ByteArray) (h o : Int) (v : Vl) : ByteArray := if yn h o = 0 then x else x ++ byF o v
def wrS (m : Mg) (h : Int) : Nat → ByteArray
  | 0 => bs [m.ty]
  | k + 1 => wrF (wrS m h k) h (bitV k) (inV m k)
/-- The bytes of a message. -/
def eO (m : Mg) : ByteArray := if mE m = 0 then wrS m (shP m.ty) 13 else ⟨#[]⟩
theorem enB_size (v : Bool) (h l p : Int) : (enB v h l p).size = if v = true then 19 else 7 := by
  unfold enB
  cases v
  · rw [if_neg (by decide), if_neg (by decide), ByteArray.size_append, ByteArray.size_append, be4_size, be2_size]
    rfl
  · rw [if_pos rfl, if_pos rfl, ByteArray.size_append, ByteArray.size_append, ByteArray.size_append, be8_size, be8_size, be2_size]
    rfl
theorem wtS_le (s : ByteArray) : (wtS s).size ≤ s.size + 2 := by
  unfold wtS
  split
  · exact Nat.zero_le _
  · rw [ByteArray.size_append, be2_size]
    omega
theorem byF_le (o : Int) (v : Vl) : (byF o v).size ≤ v.t.size + 19 := by
  have h1 := enB_size v.v v.h v.l v.p
  have h2 := wtS_le v.t
  have h3 : (if v.v = true then 19 else 7) ≤ 19 := by split <;> decide
  unfold byF
  repeat' split
  all_goals (try rw [be4_size]); (try rw [be8_size]); (try rw [be2_size]); omega
theorem wrF_le (x : ByteArray) (h o : Int) (v : Vl) : (wrF x h o v).size ≤ x.size + v.t.size + 19 := by
  have := byF_le o v
  unfold wrF
  split
  · omega
  · rw [ByteArray.size_append]
    omega
/-- A message whose texts are not too great. -/
def smM (m : Mg) : Prop := m.fr.size ≤ 70000 ∧ m.tq.size ≤ 70000 ∧ m.tx.size ≤ 70000 ∧ m.tt.size ≤ 70000 ∧ m.da.size ≤ 70000 ∧ m.sg.size ≤ 70000
theorem inV_le {m : Mg} (hm : smM m) (k : Nat) : (inV m k).t.size ≤ 70000 := by
  obtain ⟨h1, h2, h3, h4, h5, h6⟩ := hm
  unfold inV
  split <;> first | assumption | exact Nat.zero_le _
theorem wrS_le {m : Mg} (hm : smM m) (h : Int) : ∀ k, (wrS m h k).size ≤ 1 + k * 70019
  | 0 => by
    show (bs [m.ty]).size ≤ _
    rw [bs_size]
    exact Nat.le_add_right 1 _
  | k + 1 => by
    have h1 := wrS_le hm h k
    have h2 := inV_le hm k
    have h3 := wrF_le (wrS m h k) h (bitV k) (inV m k)
    show (wrF (wrS m h k) h (bitV k) (inV m k)).size ≤ _
    omega
theorem wrF_ge (x : ByteArray) (h o : Int) (v : Vl) : x.size ≤ (wrF x h o v).size := by
  unfold wrF
  split
  · exact Nat.le_refl _
  · rw [ByteArray.size_append]
    omega
theorem wrS_ge (m : Mg) (h : Int) : ∀ k, 1 ≤ (wrS m h k).size
  | 0 => by
    show 1 ≤ (bs [m.ty]).size
    rw [bs_size]
    exact Nat.le_refl 1
  | k + 1 => Nat.le_trans (wrS_ge m h k) (wrF_ge _ _ _ _)
set_option maxRecDepth 100000 in
set_option maxHeartbeats 4000000 in
set_option linter.unusedSimpArgs false in
theorem c_endBytes (ev : Bool) (eh el ep : Int) (w : World) (hL : Laid w)  :
    Calls Try.prog 64 #[.agg (av 4 (ls [.bool (ev), .int .u64 eh, .int .u64 el, .int .u16 ep]))] w fun r w' => r = .returned (.string (enB ev eh el ep)) ∧ Below w.heap.size w w' := by
  go_enter Try.func64, Try.ntmps64
  have M := Mem.start hL
  refine wp_seq ?_
  refine rg_lit ?_
  refine pl_new M (want_no rfl) (some 1) rfl (.cells (av 4 (ls [.bool (ev), .int .u64 eh, .int .u64 el, .int .u16 ep])) 28) (fun _ => by kernel_rfl) ?_
  intro g1 u1 M
  replace M : Mem ⟨w, []⟩ [⟨g1, .cells (av 4 (ls [.bool (ev), .int .u64 eh, .int .u64 el, .int .u16 ep])) 28⟩] u1 := M
  refine pl_val (want_no rfl) (some 2) rfl (.string ⟨#[]⟩) (fun _ => by kernel_rfl) ?_
  refine pl_nil ?_
  refine au_then ?_
  refine wp_seq ?_
  refine wp_seq ?_
  refine rg_lit ?_
  refine pl_val (want_no rfl) (some 3) rfl (.pointer (some ⟨g1, 0, none⟩)) (fun _ => by kernel_rfl) ?_
  refine pl_val (want_no rfl) (some 4) rfl (.pointer (some ⟨g1, 0, none⟩)) (fun _ => by kernel_rfl) ?_
  rcases Bool.eq_false_or_eq_true (ev) with c0 | c0
  · skip
    refine pl_cell M (want_no rfl) (some 5) rfl 4 _ rfl g1 0 (by kernel_rfl) (.bool true) (fun _ => by kernel_rfl) (fun w M => M.cell 0 rfl (by decide) (congrArg Value.bool c0)) ?_
    refine pl_nil ?_
    refine au_then ?_
    refine wp_cond_true (by kernel_rfl) ?_
    refine wp_seq ?_
    refine rg_held M [⟨g1, .cells (av 4 (ls [.bool (ev), .int .u64 eh, .int .u64 el, .int .u16 ep])) 28⟩] 16 rfl (by kernel_rfl) (by kernel_rfl) (fun _ _ d _ _ h => by cases d <;> exact h) ?_
    intro u2 M
    replace M : Mem ⟨w, []⟩ [⟨g1, .cells (av 4 (ls [.bool (ev), .int .u64 eh, .int .u64 el, .int .u16 ep])) 28⟩] u2 := M
    refine hl_val M 2 rfl (by decide) (by kernel_rfl) (by kernel_rfl) (want_no rfl) (some 8) rfl (.pointer (some ⟨g1, 0, none⟩)) (fun _ _ => by kernel_rfl) ?_
    refine hl_val M 3 rfl (by decide) (by kernel_rfl) (by kernel_rfl) (want_no rfl) (some 9) rfl (.pointer (some ⟨g1, 1, none⟩)) (fun _ _ => by kernel_rfl) ?_
    refine hl_cell M 4 rfl (by decide) (by kernel_rfl) (by kernel_rfl) (want_no rfl) (some 10) rfl 23 _ rfl g1 1 (by kernel_rfl) (.int .u64 eh) (fun _ => by kernel_rfl) (fun w M => M.cell 0 rfl (by decide) rfl) ?_
    refine hl_val M 7 rfl (by decide) (by kernel_rfl) (by kernel_rfl) (want_no rfl) (some 13) rfl (.pointer (some ⟨g1, 0, none⟩)) (fun _ _ => by kernel_rfl) ?_
    refine hl_val M 8 rfl (by decide) (by kernel_rfl) (by kernel_rfl) (want_no rfl) (some 14) rfl (.pointer (some ⟨g1, 2, none⟩)) (fun _ _ => by kernel_rfl) ?_
    refine hl_cell M 9 rfl (by decide) (by kernel_rfl) (by kernel_rfl) (want_no rfl) (some 15) rfl 23 _ rfl g1 2 (by kernel_rfl) (.int .u64 el) (fun _ => by kernel_rfl) (fun w M => M.cell 0 rfl (by decide) rfl) ?_
    refine hl_val M 12 rfl (by decide) (by kernel_rfl) (by kernel_rfl) (want_no rfl) (some 18) rfl (.pointer (some ⟨g1, 3, none⟩)) (fun _ _ => by kernel_rfl) ?_
    refine hl_cell M 13 rfl (by decide) (by kernel_rfl) (by kernel_rfl) (want_no rfl) (some 19) rfl 26 _ rfl g1 3 (by kernel_rfl) (.int .u16 ep) (fun _ => by kernel_rfl) (fun w M => M.cell 0 rfl (by decide) rfl) ?_
    refine hl_name ?_
    intro H hA hB
    have s11 : ∀ (a : Act) (l : Array Bool) (x_6 : Value) (w0 : World), a = ⟨#[.agg (av 4 (ls [.bool (ev), .int .u64 eh, .int .u64 el, .int .u16 ep])), .pointer (some ⟨g1, 0, none⟩), .string ⟨#[]⟩, .pointer (some ⟨g1, 0, none⟩), .pointer (some ⟨g1, 0, none⟩), .bool true, x_6, .string (bs [6]), .pointer (some ⟨g1, 0, none⟩), .pointer (some ⟨g1, 1, none⟩), .int .u64 eh, .string (be8 eh), .string ((bs [6]) ++ (be8 eh)), .pointer (some ⟨g1, 0, none⟩), .pointer (some ⟨g1, 2, none⟩), .int .u64 el, .string (be8 el), .string (((bs [6]) ++ (be8 eh)) ++ (be8 el)), .pointer (some ⟨g1, 3, none⟩), .int .u16 ep, .string (be2 (cv .u64 ep)), .string ((((bs [6]) ++ (be8 eh)) ++ (be8 el)) ++ (be2 (cv .u64 ep))), undef, undef, undef, undef, undef, undef, undef, undef, undef, undef, undef, undef], []⟩ → l = #[true, true, true, true, true, true, true, true, true, true, true, true, true, true, true, true, false] → Mem ⟨w, []⟩ [⟨g1, .cells (av 4 (ls [.bool (ev), .int .u64 eh, .int .u64 el, .int .u16 ep])) 28⟩] w0 → H 1 l a w0 := by
      intro a l  x_6 u0 ha hl M
      subst ha hl
      refine hB _ _ _ _ ?_
      refine hl_end (by kernel_rfl) (by kernel_rfl) rfl ?_
      refine pl_val (want_no rfl) (some 2) rfl (.string ((((bs [6]) ++ (be8 eh)) ++ (be8 el)) ++ (be2 (cv .u64 ep)))) (fun _ => by kernel_rfl) ?_
      refine pl_nil ?_
      refine au_then ?_
      refine au_then ?_
      refine wp_ret ?_
      refine au_then_ret ?_
      have e0 : (enB ev eh el ep) = ((((bs [6]) ++ (be8 eh)) ++ (be8 el)) ++ (be2 (cv .u64 ep))) := by simp only [enB, if_pos c0]
      exact bodyPost_ret (v := .string ((((bs [6]) ++ (be8 eh)) ++ (be8 el)) ++ (be2 (cv .u64 ep)))) (results_tmp1 Try.results64 _ _ _ (by kernel_rfl)) (by kernel_rfl) ⟨by rw [e0], below_grown M.old⟩
    have s9 : ∀ (a : Act) (l : Array Bool) (x_6 : Value) (w0 : World), a = ⟨#[.agg (av 4 (ls [.bool (ev), .int .u64 eh, .int .u64 el, .int .u16 ep])), .pointer (some ⟨g1, 0, none⟩), .string ⟨#[]⟩, .pointer (some ⟨g1, 0, none⟩), .pointer (some ⟨g1, 0, none⟩), .bool true, x_6, .string (bs [6]), .pointer (some ⟨g1, 0, none⟩), .pointer (some ⟨g1, 1, none⟩), .int .u64 eh, .string (be8 eh), .string ((bs [6]) ++ (be8 eh)), .pointer (some ⟨g1, 0, none⟩), .pointer (some ⟨g1, 2, none⟩), .int .u64 el, .string (be8 el), .string (((bs [6]) ++ (be8 eh)) ++ (be8 el)), .pointer (some ⟨g1, 3, none⟩), .int .u16 ep, undef, undef, undef, undef, undef, undef, undef, undef, undef, undef, undef, undef, undef, undef], []⟩ → l = #[true, true, true, true, true, true, true, true, true, true, true, true, true, true, false, false, false] → Mem ⟨w, []⟩ [⟨g1, .cells (av 4 (ls [.bool (ev), .int .u64 eh, .int .u64 el, .int .u16 ep])) 28⟩] w0 → H 3 l a w0 := by
      intro a l  x_6 u0 ha hl M
      subst ha hl
      refine hB _ _ _ _ ?_
      refine hl_one 14 (by decide) (by kernel_rfl) rfl ?_
      refine pl_call M (want_no rfl) (some 20) rfl 63 #[.int .u16 ep] (.string (be2 (cv .u64 ep))) (fun _ => by kernel_rfl) (fun w M => c_U16 ep w M.laid) ?_
      intro u6 M
      refine pl_nil ?_
      refine au_then ?_
      refine ⟨M, ?_⟩
      refine hl_val M 15 rfl (by decide) (by kernel_rfl) (by kernel_rfl) (want_no rfl) (some 21) rfl (.string ((((bs [6]) ++ (be8 eh)) ++ (be8 el)) ++ (be2 (cv .u64 ep)))) (fun w _ => (run_cat 9 9 _ _ rfl (((bs [6]) ++ (be8 eh)) ++ (be8 el)) (be2 (cv .u64 ep)) (by kernel_rfl) (by kernel_rfl) (by (try simp only [ByteArray.size_append, ByteArray.size_extract, be2_size, be4_size, be8_size, bs_size, sz_mk, List.size_toArray, List.length_cons, List.length_nil]); omega)) w) ?_
      exact hA _ _ _ _ (s11 _ _ (x_6) _ (by kernel_rfl) (by kernel_rfl) M)
    have s6 : ∀ (a : Act) (l : Array Bool) (x_6 : Value) (w0 : World), a = ⟨#[.agg (av 4 (ls [.bool (ev), .int .u64 eh, .int .u64 el, .int .u16 ep])), .pointer (some ⟨g1, 0, none⟩), .string ⟨#[]⟩, .pointer (some ⟨g1, 0, none⟩), .pointer (some ⟨g1, 0, none⟩), .bool true, x_6, .string (bs [6]), .pointer (some ⟨g1, 0, none⟩), .pointer (some ⟨g1, 1, none⟩), .int .u64 eh, .string (be8 eh), .string ((bs [6]) ++ (be8 eh)), .pointer (some ⟨g1, 0, none⟩), .pointer (some ⟨g1, 2, none⟩), .int .u64 el, undef, undef, .pointer (some ⟨g1, 3, none⟩), .int .u16 ep, undef, undef, undef, undef, undef, undef, undef, undef, undef, undef, undef, undef, undef, undef], []⟩ → l = #[true, true, true, true, true, true, true, true, true, true, false, false, true, true, false, false, false] → Mem ⟨w, []⟩ [⟨g1, .cells (av 4 (ls [.bool (ev), .int .u64 eh, .int .u64 el, .int .u16 ep])) 28⟩] w0 → H 5 l a w0 := by
      intro a l  x_6 u0 ha hl M
      subst ha hl
      refine hB _ _ _ _ ?_
      refine hl_one 10 (by decide) (by kernel_rfl) rfl ?_
      refine pl_call M (want_no rfl) (some 16) rfl 62 #[.int .u64 el] (.string (be8 el)) (fun _ => by kernel_rfl) (fun w M => c_U64 el w M.laid) ?_
      intro u5 M
      refine pl_nil ?_
      refine au_then ?_
      refine ⟨M, ?_⟩
      refine hl_val M 11 rfl (by decide) (by kernel_rfl) (by kernel_rfl) (want_no rfl) (some 17) rfl (.string (((bs [6]) ++ (be8 eh)) ++ (be8 el))) (fun w _ => (run_cat 9 9 _ _ rfl ((bs [6]) ++ (be8 eh)) (be8 el) (by kernel_rfl) (by kernel_rfl) (by (try simp only [ByteArray.size_append, ByteArray.size_extract, be2_size, be4_size, be8_size, bs_size, sz_mk, List.size_toArray, List.length_cons, List.length_nil]); omega)) w) ?_
      exact hA _ _ _ _ (s9 _ _ (x_6) _ (by kernel_rfl) (by kernel_rfl) M)
    have s10 : ∀ (a : Act) (l : Array Bool) (g2 : Nat) (w0 : World), a = ⟨#[.agg (av 4 (ls [.bool (ev), .int .u64 eh, .int .u64 el, .int .u16 ep])), .pointer (some ⟨g1, 0, none⟩), .string ⟨#[]⟩, .pointer (some ⟨g1, 0, none⟩), .pointer (some ⟨g1, 0, none⟩), .bool true, .slice (some ⟨g2, 0, none⟩) 1 1, undef, .pointer (some ⟨g1, 0, none⟩), .pointer (some ⟨g1, 1, none⟩), .int .u64 eh, .string (be8 eh), undef, .pointer (some ⟨g1, 0, none⟩), .pointer (some ⟨g1, 2, none⟩), .int .u64 el, .string (be8 el), undef, .pointer (some ⟨g1, 3, none⟩), .int .u16 ep, .string (be2 (cv .u64 ep)), undef, undef, undef, undef, undef, undef, undef, undef, undef, undef, undef, undef, undef], []⟩ → l = #[true, false, true, true, true, true, false, true, true, true, true, false, true, true, true, false, false] → Mem ⟨w, []⟩ [⟨g1, .cells (av 4 (ls [.bool (ev), .int .u64 eh, .int .u64 el, .int .u16 ep])) 28⟩, ⟨g2, .cells (av 1 (ls [.int .u8 6])) 5⟩] w0 → H 5 l a w0 := by
      intro a l g2  u0 ha hl M
      subst ha hl
      refine hB _ _ _ _ ?_
      refine hl_one 1 (by decide) (by kernel_rfl) rfl ?_
      refine pl_back M (want_no rfl) (some 7) rfl _ rfl 1 g2 1 1 (by kernel_rfl) _ rfl [6] 1 (sb_ls [6] _) rfl (by intro x hx; simp only [List.mem_cons, List.mem_nil_iff, or_false] at hx; subst hx; omega) ?_
      refine pl_nil ?_
      refine au_then ?_
      refine ⟨(M.drop (.cons_cons _ (.cons _ (.slnil)))), ?_⟩
      refine hl_val (M.drop (.cons_cons _ (.cons _ (.slnil)))) 6 rfl (by decide) (by kernel_rfl) (by kernel_rfl) (want_no rfl) (some 12) rfl (.string ((bs [6]) ++ (be8 eh))) (fun w _ => (run_cat 9 9 _ _ rfl (bs [6]) (be8 eh) (by kernel_rfl) (by kernel_rfl) (by (try simp only [ByteArray.size_append, ByteArray.size_extract, be2_size, be4_size, be8_size, bs_size, sz_mk, List.size_toArray, List.length_cons, List.length_nil]); omega)) w) ?_
      refine hl_val (M.drop (.cons_cons _ (.cons _ (.slnil)))) 11 rfl (by decide) (by kernel_rfl) (by kernel_rfl) (want_no rfl) (some 17) rfl (.string (((bs [6]) ++ (be8 eh)) ++ (be8 el))) (fun w _ => (run_cat 9 9 _ _ rfl ((bs [6]) ++ (be8 eh)) (be8 el) (by kernel_rfl) (by kernel_rfl) (by (try simp only [ByteArray.size_append, ByteArray.size_extract, be2_size, be4_size, be8_size, bs_size, sz_mk, List.size_toArray, List.length_cons, List.length_nil]); omega)) w) ?_
      refine hl_val (M.drop (.cons_cons _ (.cons _ (.slnil)))) 15 rfl (by decide) (by kernel_rfl) (by kernel_rfl) (want_no rfl) (some 21) rfl (.string ((((bs [6]) ++ (be8 eh)) ++ (be8 el)) ++ (be2 (cv .u64 ep)))) (fun w _ => (run_cat 9 9 _ _ rfl (((bs [6]) ++ (be8 eh)) ++ (be8 el)) (be2 (cv .u64 ep)) (by kernel_rfl) (by kernel_rfl) (by (try simp only [ByteArray.size_append, ByteArray.size_extract, be2_size, be4_size, be8_size, bs_size, sz_mk, List.size_toArray, List.length_cons, List.length_nil]); omega)) w) ?_
      exact hA _ _ _ _ (s11 _ _ (.slice (some ⟨g2, 0, none⟩) 1 1) _ (by kernel_rfl) (by kernel_rfl) (M.drop (.cons_cons _ (.cons _ (.slnil)))))
    have s7 : ∀ (a : Act) (l : Array Bool) (g2 : Nat) (w0 : World), a = ⟨#[.agg (av 4 (ls [.bool (ev), .int .u64 eh, .int .u64 el, .int .u16 ep])), .pointer (some ⟨g1, 0, none⟩), .string ⟨#[]⟩, .pointer (some ⟨g1, 0, none⟩), .pointer (some ⟨g1, 0, none⟩), .bool true, .slice (some ⟨g2, 0, none⟩) 1 1, undef, .pointer (some ⟨g1, 0, none⟩), .pointer (some ⟨g1, 1, none⟩), .int .u64 eh, .string (be8 eh), undef, .pointer (some ⟨g1, 0, none⟩), .pointer (some ⟨g1, 2, none⟩), .int .u64 el, .string (be8 el), undef, .pointer (some ⟨g1, 3, none⟩), .int .u16 ep, undef, undef, undef, undef, undef, undef, undef, undef, undef, undef, undef, undef, undef, undef], []⟩ → l = #[true, false, true, true, true, true, false, true, true, true, true, false, true, true, false, false, false] → Mem ⟨w, []⟩ [⟨g1, .cells (av 4 (ls [.bool (ev), .int .u64 eh, .int .u64 el, .int .u16 ep])) 28⟩, ⟨g2, .cells (av 1 (ls [.int .u8 6])) 5⟩] w0 → H 6 l a w0 := by
      intro a l g2  u0 ha hl M
      subst ha hl
      refine hB _ _ _ _ ?_
      refine hl_two 1 14 (by decide) (by decide) (by kernel_rfl) rfl rfl ?_ ?_
      · skip
        refine pl_back M (want_no rfl) (some 7) rfl _ rfl 1 g2 1 1 (by kernel_rfl) _ rfl [6] 1 (sb_ls [6] _) rfl (by intro x hx; simp only [List.mem_cons, List.mem_nil_iff, or_false] at hx; subst hx; omega) ?_
        refine pl_nil ?_
        refine au_then ?_
        refine ⟨(M.drop (.cons_cons _ (.cons _ (.slnil)))), ?_⟩
        refine hl_val (M.drop (.cons_cons _ (.cons _ (.slnil)))) 6 rfl (by decide) (by kernel_rfl) (by kernel_rfl) (want_no rfl) (some 12) rfl (.string ((bs [6]) ++ (be8 eh))) (fun w _ => (run_cat 9 9 _ _ rfl (bs [6]) (be8 eh) (by kernel_rfl) (by kernel_rfl) (by (try simp only [ByteArray.size_append, ByteArray.size_extract, be2_size, be4_size, be8_size, bs_size, sz_mk, List.size_toArray, List.length_cons, List.length_nil]); omega)) w) ?_
        refine hl_val (M.drop (.cons_cons _ (.cons _ (.slnil)))) 11 rfl (by decide) (by kernel_rfl) (by kernel_rfl) (want_no rfl) (some 17) rfl (.string (((bs [6]) ++ (be8 eh)) ++ (be8 el))) (fun w _ => (run_cat 9 9 _ _ rfl ((bs [6]) ++ (be8 eh)) (be8 el) (by kernel_rfl) (by kernel_rfl) (by (try simp only [ByteArray.size_append, ByteArray.size_extract, be2_size, be4_size, be8_size, bs_size, sz_mk, List.size_toArray, List.length_cons, List.length_nil]); omega)) w) ?_
        exact hA _ _ _ _ (s9 _ _ (.slice (some ⟨g2, 0, none⟩) 1 1) _ (by kernel_rfl) (by kernel_rfl) (M.drop (.cons_cons _ (.cons _ (.slnil)))))
      · skip
        refine pl_call M (want_no rfl) (some 20) rfl 63 #[.int .u16 ep] (.string (be2 (cv .u64 ep))) (fun _ => by kernel_rfl) (fun w M => c_U16 ep w M.laid) ?_
        intro u6 M
        refine pl_nil ?_
        refine au_then ?_
        refine ⟨(M.drop (.cons_cons _ (.cons _ (.slnil)))), ?_⟩
        exact hA _ _ _ _ (s10 _ _ g2 _ (by kernel_rfl) (by kernel_rfl) M)
    have s8 : ∀ (a : Act) (l : Array Bool) (w0 : World), a = ⟨#[.agg (av 4 (ls [.bool (ev), .int .u64 eh, .int .u64 el, .int .u16 ep])), .pointer (some ⟨g1, 0, none⟩), .string ⟨#[]⟩, .pointer (some ⟨g1, 0, none⟩), .pointer (some ⟨g1, 0, none⟩), .bool true, undef, undef, .pointer (some ⟨g1, 0, none⟩), .pointer (some ⟨g1, 1, none⟩), .int .u64 eh, .string (be8 eh), undef, .pointer (some ⟨g1, 0, none⟩), .pointer (some ⟨g1, 2, none⟩), .int .u64 el, .string (be8 el), undef, .pointer (some ⟨g1, 3, none⟩), .int .u16 ep, .string (be2 (cv .u64 ep)), undef, undef, undef, undef, undef, undef, undef, undef, undef, undef, undef, undef, undef], []⟩ → l = #[false, false, true, true, true, true, false, true, true, true, true, false, true, true, true, false, false] → Mem ⟨w, []⟩ [⟨g1, .cells (av 4 (ls [.bool (ev), .int .u64 eh, .int .u64 el, .int .u16 ep])) 28⟩] w0 → H 6 l a w0 := by
      intro a l   u0 ha hl M
      subst ha hl
      refine hB _ _ _ _ ?_
      refine hl_one 0 (by decide) (by kernel_rfl) rfl ?_
      refine pl_mk M (want_no rfl) (some 6) rfl (fun g2 => .slice (some ⟨g2, 0, none⟩) 1 1) (.cells (av 1 (ls [.int .u8 6])) 5) (fun _ => by kernel_rfl) ?_
      intro g2 u6 M
      replace M : Mem ⟨w, []⟩ [⟨g1, .cells (av 4 (ls [.bool (ev), .int .u64 eh, .int .u64 el, .int .u16 ep])) 28⟩, ⟨g2, .cells (av 1 (ls [.int .u8 6])) 5⟩] u6 := M
      refine pl_nil ?_
      refine au_then ?_
      refine ⟨(M.drop (.cons_cons _ (.cons _ (.slnil)))), ?_⟩
      exact hA _ _ _ _ (s10 _ _ g2 _ (by kernel_rfl) (by kernel_rfl) M)
    have s3 : ∀ (a : Act) (l : Array Bool) (x_6 : Value) (w0 : World), a = ⟨#[.agg (av 4 (ls [.bool (ev), .int .u64 eh, .int .u64 el, .int .u16 ep])), .pointer (some ⟨g1, 0, none⟩), .string ⟨#[]⟩, .pointer (some ⟨g1, 0, none⟩), .pointer (some ⟨g1, 0, none⟩), .bool true, x_6, .string (bs [6]), .pointer (some ⟨g1, 0, none⟩), .pointer (some ⟨g1, 1, none⟩), .int .u64 eh, undef, undef, .pointer (some ⟨g1, 0, none⟩), .pointer (some ⟨g1, 2, none⟩), .int .u64 el, undef, undef, .pointer (some ⟨g1, 3, none⟩), .int .u16 ep, undef, undef, undef, undef, undef, undef, undef, undef, undef, undef, undef, undef, undef, undef], []⟩ → l = #[true, true, true, true, true, false, false, true, true, true, false, false, true, true, false, false, false] → Mem ⟨w, []⟩ [⟨g1, .cells (av 4 (ls [.bool (ev), .int .u64 eh, .int .u64 el, .int .u16 ep])) 28⟩] w0 → H 7 l a w0 := by
      intro a l  x_6 u0 ha hl M
      subst ha hl
      refine hB _ _ _ _ ?_
      refine hl_one 5 (by decide) (by kernel_rfl) rfl ?_
      refine pl_call M (want_no rfl) (some 11) rfl 62 #[.int .u64 eh] (.string (be8 eh)) (fun _ => by kernel_rfl) (fun w M => c_U64 eh w M.laid) ?_
      intro u4 M
      refine pl_nil ?_
      refine au_then ?_
      refine ⟨M, ?_⟩
      refine hl_val M 6 rfl (by decide) (by kernel_rfl) (by kernel_rfl) (want_no rfl) (some 12) rfl (.string ((bs [6]) ++ (be8 eh))) (fun w _ => (run_cat 9 9 _ _ rfl (bs [6]) (be8 eh) (by kernel_rfl) (by kernel_rfl) (by (try simp only [ByteArray.size_append, ByteArray.size_extract, be2_size, be4_size, be8_size, bs_size, sz_mk, List.size_toArray, List.length_cons, List.length_nil]); omega)) w) ?_
      exact hA _ _ _ _ (s6 _ _ (x_6) _ (by kernel_rfl) (by kernel_rfl) M)
    have s4 : ∀ (a : Act) (l : Array Bool) (g2 : Nat) (w0 : World), a = ⟨#[.agg (av 4 (ls [.bool (ev), .int .u64 eh, .int .u64 el, .int .u16 ep])), .pointer (some ⟨g1, 0, none⟩), .string ⟨#[]⟩, .pointer (some ⟨g1, 0, none⟩), .pointer (some ⟨g1, 0, none⟩), .bool true, .slice (some ⟨g2, 0, none⟩) 1 1, undef, .pointer (some ⟨g1, 0, none⟩), .pointer (some ⟨g1, 1, none⟩), .int .u64 eh, .string (be8 eh), undef, .pointer (some ⟨g1, 0, none⟩), .pointer (some ⟨g1, 2, none⟩), .int .u64 el, undef, undef, .pointer (some ⟨g1, 3, none⟩), .int .u16 ep, undef, undef, undef, undef, undef, undef, undef, undef, undef, undef, undef, undef, undef, undef], []⟩ → l = #[true, false, true, true, true, true, false, true, true, true, false, false, true, true, false, false, false] → Mem ⟨w, []⟩ [⟨g1, .cells (av 4 (ls [.bool (ev), .int .u64 eh, .int .u64 el, .int .u16 ep])) 28⟩, ⟨g2, .cells (av 1 (ls [.int .u8 6])) 5⟩] w0 → H 7 l a w0 := by
      intro a l g2  u0 ha hl M
      subst ha hl
      refine hB _ _ _ _ ?_
      refine hl_two 1 10 (by decide) (by decide) (by kernel_rfl) rfl rfl ?_ ?_
      · skip
        refine pl_back M (want_no rfl) (some 7) rfl _ rfl 1 g2 1 1 (by kernel_rfl) _ rfl [6] 1 (sb_ls [6] _) rfl (by intro x hx; simp only [List.mem_cons, List.mem_nil_iff, or_false] at hx; subst hx; omega) ?_
        refine pl_nil ?_
        refine au_then ?_
        refine ⟨(M.drop (.cons_cons _ (.cons _ (.slnil)))), ?_⟩
        refine hl_val (M.drop (.cons_cons _ (.cons _ (.slnil)))) 6 rfl (by decide) (by kernel_rfl) (by kernel_rfl) (want_no rfl) (some 12) rfl (.string ((bs [6]) ++ (be8 eh))) (fun w _ => (run_cat 9 9 _ _ rfl (bs [6]) (be8 eh) (by kernel_rfl) (by kernel_rfl) (by (try simp only [ByteArray.size_append, ByteArray.size_extract, be2_size, be4_size, be8_size, bs_size, sz_mk, List.size_toArray, List.length_cons, List.length_nil]); omega)) w) ?_
        exact hA _ _ _ _ (s6 _ _ (.slice (some ⟨g2, 0, none⟩) 1 1) _ (by kernel_rfl) (by kernel_rfl) (M.drop (.cons_cons _ (.cons _ (.slnil)))))
      · skip
        refine pl_call M (want_no rfl) (some 16) rfl 62 #[.int .u64 el] (.string (be8 el)) (fun _ => by kernel_rfl) (fun w M => c_U64 el w M.laid) ?_
        intro u5 M
        refine pl_nil ?_
        refine au_then ?_
        refine ⟨(M.drop (.cons_cons _ (.cons _ (.slnil)))), ?_⟩
        exact hA _ _ _ _ (s7 _ _ g2 _ (by kernel_rfl) (by kernel_rfl) M)
    have s5 : ∀ (a : Act) (l : Array Bool) (w0 : World), a = ⟨#[.agg (av 4 (ls [.bool (ev), .int .u64 eh, .int .u64 el, .int .u16 ep])), .pointer (some ⟨g1, 0, none⟩), .string ⟨#[]⟩, .pointer (some ⟨g1, 0, none⟩), .pointer (some ⟨g1, 0, none⟩), .bool true, undef, undef, .pointer (some ⟨g1, 0, none⟩), .pointer (some ⟨g1, 1, none⟩), .int .u64 eh, .string (be8 eh), undef, .pointer (some ⟨g1, 0, none⟩), .pointer (some ⟨g1, 2, none⟩), .int .u64 el, .string (be8 el), undef, .pointer (some ⟨g1, 3, none⟩), .int .u16 ep, undef, undef, undef, undef, undef, undef, undef, undef, undef, undef, undef, undef, undef, undef], []⟩ → l = #[false, false, true, true, true, true, false, true, true, true, true, false, true, true, false, false, false] → Mem ⟨w, []⟩ [⟨g1, .cells (av 4 (ls [.bool (ev), .int .u64 eh, .int .u64 el, .int .u16 ep])) 28⟩] w0 → H 7 l a w0 := by
      intro a l   u0 ha hl M
      subst ha hl
      refine hB _ _ _ _ ?_
      refine hl_two 0 14 (by decide) (by decide) (by kernel_rfl) rfl rfl ?_ ?_
      · skip
        refine pl_mk M (want_no rfl) (some 6) rfl (fun g2 => .slice (some ⟨g2, 0, none⟩) 1 1) (.cells (av 1 (ls [.int .u8 6])) 5) (fun _ => by kernel_rfl) ?_
        intro g2 u5 M
        replace M : Mem ⟨w, []⟩ [⟨g1, .cells (av 4 (ls [.bool (ev), .int .u64 eh, .int .u64 el, .int .u16 ep])) 28⟩, ⟨g2, .cells (av 1 (ls [.int .u8 6])) 5⟩] u5 := M
        refine pl_nil ?_
        refine au_then ?_
        refine ⟨(M.drop (.cons_cons _ (.cons _ (.slnil)))), ?_⟩
        exact hA _ _ _ _ (s7 _ _ g2 _ (by kernel_rfl) (by kernel_rfl) M)
      · skip
        refine pl_call M (want_no rfl) (some 20) rfl 63 #[.int .u16 ep] (.string (be2 (cv .u64 ep))) (fun _ => by kernel_rfl) (fun w M => c_U16 ep w M.laid) ?_
        intro u5 M
        refine pl_nil ?_
        refine au_then ?_
        refine ⟨M, ?_⟩
        exact hA _ _ _ _ (s8 _ _  _ (by kernel_rfl) (by kernel_rfl) M)
    have s1 : ∀ (a : Act) (l : Array Bool) (g2 : Nat) (w0 : World), a = ⟨#[.agg (av 4 (ls [.bool (ev), .int .u64 eh, .int .u64 el, .int .u16 ep])), .pointer (some ⟨g1, 0, none⟩), .string ⟨#[]⟩, .pointer (some ⟨g1, 0, none⟩), .pointer (some ⟨g1, 0, none⟩), .bool true, .slice (some ⟨g2, 0, none⟩) 1 1, undef, .pointer (some ⟨g1, 0, none⟩), .pointer (some ⟨g1, 1, none⟩), .int .u64 eh, undef, undef, .pointer (some ⟨g1, 0, none⟩), .pointer (some ⟨g1, 2, none⟩), .int .u64 el, undef, undef, .pointer (some ⟨g1, 3, none⟩), .int .u16 ep, undef, undef, undef, undef, undef, undef, undef, undef, undef, undef, undef, undef, undef, undef], []⟩ → l = #[true, false, true, true, true, false, false, true, true, true, false, false, true, true, false, false, false] → Mem ⟨w, []⟩ [⟨g1, .cells (av 4 (ls [.bool (ev), .int .u64 eh, .int .u64 el, .int .u16 ep])) 28⟩, ⟨g2, .cells (av 1 (ls [.int .u8 6])) 5⟩] w0 → H 8 l a w0 := by
      intro a l g2  u0 ha hl M
      subst ha hl
      refine hB _ _ _ _ ?_
      refine hl_two 1 5 (by decide) (by decide) (by kernel_rfl) rfl rfl ?_ ?_
      · skip
        refine pl_back M (want_no rfl) (some 7) rfl _ rfl 1 g2 1 1 (by kernel_rfl) _ rfl [6] 1 (sb_ls [6] _) rfl (by intro x hx; simp only [List.mem_cons, List.mem_nil_iff, or_false] at hx; subst hx; omega) ?_
        refine pl_nil ?_
        refine au_then ?_
        refine ⟨(M.drop (.cons_cons _ (.cons _ (.slnil)))), ?_⟩
        exact hA _ _ _ _ (s3 _ _ (.slice (some ⟨g2, 0, none⟩) 1 1) _ (by kernel_rfl) (by kernel_rfl) (M.drop (.cons_cons _ (.cons _ (.slnil)))))
      · skip
        refine pl_call M (want_no rfl) (some 11) rfl 62 #[.int .u64 eh] (.string (be8 eh)) (fun _ => by kernel_rfl) (fun w M => c_U64 eh w M.laid) ?_
        intro u4 M
        refine pl_nil ?_
        refine au_then ?_
        refine ⟨(M.drop (.cons_cons _ (.cons _ (.slnil)))), ?_⟩
        exact hA _ _ _ _ (s4 _ _ g2 _ (by kernel_rfl) (by kernel_rfl) M)
    have s2 : ∀ (a : Act) (l : Array Bool) (w0 : World), a = ⟨#[.agg (av 4 (ls [.bool (ev), .int .u64 eh, .int .u64 el, .int .u16 ep])), .pointer (some ⟨g1, 0, none⟩), .string ⟨#[]⟩, .pointer (some ⟨g1, 0, none⟩), .pointer (some ⟨g1, 0, none⟩), .bool true, undef, undef, .pointer (some ⟨g1, 0, none⟩), .pointer (some ⟨g1, 1, none⟩), .int .u64 eh, .string (be8 eh), undef, .pointer (some ⟨g1, 0, none⟩), .pointer (some ⟨g1, 2, none⟩), .int .u64 el, undef, undef, .pointer (some ⟨g1, 3, none⟩), .int .u16 ep, undef, undef, undef, undef, undef, undef, undef, undef, undef, undef, undef, undef, undef, undef], []⟩ → l = #[false, false, true, true, true, true, false, true, true, true, false, false, true, true, false, false, false] → Mem ⟨w, []⟩ [⟨g1, .cells (av 4 (ls [.bool (ev), .int .u64 eh, .int .u64 el, .int .u16 ep])) 28⟩] w0 → H 8 l a w0 := by
      intro a l   u0 ha hl M
      subst ha hl
      refine hB _ _ _ _ ?_
      refine hl_two 0 10 (by decide) (by decide) (by kernel_rfl) rfl rfl ?_ ?_
      · skip
        refine pl_mk M (want_no rfl) (some 6) rfl (fun g2 => .slice (some ⟨g2, 0, none⟩) 1 1) (.cells (av 1 (ls [.int .u8 6])) 5) (fun _ => by kernel_rfl) ?_
        intro g2 u4 M
        replace M : Mem ⟨w, []⟩ [⟨g1, .cells (av 4 (ls [.bool (ev), .int .u64 eh, .int .u64 el, .int .u16 ep])) 28⟩, ⟨g2, .cells (av 1 (ls [.int .u8 6])) 5⟩] u4 := M
        refine pl_nil ?_
        refine au_then ?_
        refine ⟨(M.drop (.cons_cons _ (.cons _ (.slnil)))), ?_⟩
        exact hA _ _ _ _ (s4 _ _ g2 _ (by kernel_rfl) (by kernel_rfl) M)
      · skip
        refine pl_call M (want_no rfl) (some 16) rfl 62 #[.int .u64 el] (.string (be8 el)) (fun _ => by kernel_rfl) (fun w M => c_U64 el w M.laid) ?_
        intro u4 M
        refine pl_nil ?_
        refine au_then ?_
        refine ⟨M, ?_⟩
        exact hA _ _ _ _ (s5 _ _  _ (by kernel_rfl) (by kernel_rfl) M)
    have s0 : ∀ (a : Act) (l : Array Bool) (w0 : World), a = ⟨#[.agg (av 4 (ls [.bool (ev), .int .u64 eh, .int .u64 el, .int .u16 ep])), .pointer (some ⟨g1, 0, none⟩), .string ⟨#[]⟩, .pointer (some ⟨g1, 0, none⟩), .pointer (some ⟨g1, 0, none⟩), .bool true, undef, undef, .pointer (some ⟨g1, 0, none⟩), .pointer (some ⟨g1, 1, none⟩), .int .u64 eh, undef, undef, .pointer (some ⟨g1, 0, none⟩), .pointer (some ⟨g1, 2, none⟩), .int .u64 el, undef, undef, .pointer (some ⟨g1, 3, none⟩), .int .u16 ep, undef, undef, undef, undef, undef, undef, undef, undef, undef, undef, undef, undef, undef, undef], []⟩ → l = #[false, false, true, true, true, false, false, true, true, true, false, false, true, true, false, false, false] → Mem ⟨w, []⟩ [⟨g1, .cells (av 4 (ls [.bool (ev), .int .u64 eh, .int .u64 el, .int .u16 ep])) 28⟩] w0 → H 9 l a w0 := by
      intro a l   u0 ha hl M
      subst ha hl
      refine hB _ _ _ _ ?_
      refine hl_two 0 5 (by decide) (by decide) (by kernel_rfl) rfl rfl ?_ ?_
      · skip
        refine pl_mk M (want_no rfl) (some 6) rfl (fun g2 => .slice (some ⟨g2, 0, none⟩) 1 1) (.cells (av 1 (ls [.int .u8 6])) 5) (fun _ => by kernel_rfl) ?_
        intro g2 u3 M
        replace M : Mem ⟨w, []⟩ [⟨g1, .cells (av 4 (ls [.bool (ev), .int .u64 eh, .int .u64 el, .int .u16 ep])) 28⟩, ⟨g2, .cells (av 1 (ls [.int .u8 6])) 5⟩] u3 := M
        refine pl_nil ?_
        refine au_then ?_
        refine ⟨(M.drop (.cons_cons _ (.cons _ (.slnil)))), ?_⟩
        exact hA _ _ _ _ (s1 _ _ g2 _ (by kernel_rfl) (by kernel_rfl) M)
      · skip
        refine pl_call M (want_no rfl) (some 11) rfl 62 #[.int .u64 eh] (.string (be8 eh)) (fun _ => by kernel_rfl) (fun w M => c_U64 eh w M.laid) ?_
        intro u3 M
        refine pl_nil ?_
        refine au_then ?_
        refine ⟨M, ?_⟩
        exact hA _ _ _ _ (s2 _ _  _ (by kernel_rfl) (by kernel_rfl) M)
    exact s0 _ _  _ (by kernel_rfl) (by kernel_rfl) M
  · skip
    refine pl_cell M (want_no rfl) (some 5) rfl 4 _ rfl g1 0 (by kernel_rfl) (.bool false) (fun _ => by kernel_rfl) (fun w M => M.cell 0 rfl (by decide) (congrArg Value.bool c0)) ?_
    refine pl_nil ?_
    refine au_then ?_
    refine wp_cond_false (by kernel_rfl) ?_
    refine wp_skip ?_
    refine au_then ?_
    refine wp_seq ?_
    refine rg_held M [⟨g1, .cells (av 4 (ls [.bool (ev), .int .u64 eh, .int .u64 el, .int .u16 ep])) 28⟩] 12 rfl (by kernel_rfl) (by kernel_rfl) (fun _ _ d _ _ h => by cases d <;> exact h) ?_
    intro u2 M
    replace M : Mem ⟨w, []⟩ [⟨g1, .cells (av 4 (ls [.bool (ev), .int .u64 eh, .int .u64 el, .int .u16 ep])) 28⟩] u2 := M
    refine hl_val M 2 rfl (by decide) (by kernel_rfl) (by kernel_rfl) (want_no rfl) (some 24) rfl (.pointer (some ⟨g1, 0, none⟩)) (fun _ _ => by kernel_rfl) ?_
    refine hl_val M 3 rfl (by decide) (by kernel_rfl) (by kernel_rfl) (want_no rfl) (some 25) rfl (.pointer (some ⟨g1, 2, none⟩)) (fun _ _ => by kernel_rfl) ?_
    refine hl_cell M 4 rfl (by decide) (by kernel_rfl) (by kernel_rfl) (want_no rfl) (some 26) rfl 23 _ rfl g1 2 (by kernel_rfl) (.int .u64 el) (fun _ => by kernel_rfl) (fun w M => M.cell 0 rfl (by decide) rfl) ?_
    refine hl_val M 5 rfl (by decide) (by kernel_rfl) (by kernel_rfl) (want_no rfl) (some 27) rfl (.int .u32 (cv .u32 el)) (fun _ _ => by kernel_rfl) ?_
    refine hl_val M 8 rfl (by decide) (by kernel_rfl) (by kernel_rfl) (want_no rfl) (some 30) rfl (.pointer (some ⟨g1, 3, none⟩)) (fun _ _ => by kernel_rfl) ?_
    refine hl_cell M 9 rfl (by decide) (by kernel_rfl) (by kernel_rfl) (want_no rfl) (some 31) rfl 26 _ rfl g1 3 (by kernel_rfl) (.int .u16 ep) (fun _ => by kernel_rfl) (fun w M => M.cell 0 rfl (by decide) rfl) ?_
    refine hl_name ?_
    intro H hA hB
    have s8 : ∀ (a : Act) (l : Array Bool) (x_22 : Value) (w0 : World), a = ⟨#[.agg (av 4 (ls [.bool (ev), .int .u64 eh, .int .u64 el, .int .u16 ep])), .pointer (some ⟨g1, 0, none⟩), .string ⟨#[]⟩, .pointer (some ⟨g1, 0, none⟩), .pointer (some ⟨g1, 0, none⟩), .bool false, undef, undef, undef, undef, undef, undef, undef, undef, undef, undef, undef, undef, undef, undef, undef, undef, x_22, .string (bs [4]), .pointer (some ⟨g1, 0, none⟩), .pointer (some ⟨g1, 2, none⟩), .int .u64 el, .int .u32 (cv .u32 el), .string (be4 (cv .u64 (cv .u32 el))), .string ((bs [4]) ++ (be4 (cv .u64 (cv .u32 el)))), .pointer (some ⟨g1, 3, none⟩), .int .u16 ep, .string (be2 (cv .u64 ep)), .string (((bs [4]) ++ (be4 (cv .u64 (cv .u32 el)))) ++ (be2 (cv .u64 ep)))], []⟩ → l = #[true, true, true, true, true, true, true, true, true, true, true, true, false] → Mem ⟨w, []⟩ [⟨g1, .cells (av 4 (ls [.bool (ev), .int .u64 eh, .int .u64 el, .int .u16 ep])) 28⟩] w0 → H 1 l a w0 := by
      intro a l  x_22 u0 ha hl M
      subst ha hl
      refine hB _ _ _ _ ?_
      refine hl_end (by kernel_rfl) (by kernel_rfl) rfl ?_
      refine pl_val (want_no rfl) (some 2) rfl (.string (((bs [4]) ++ (be4 (cv .u64 (cv .u32 el)))) ++ (be2 (cv .u64 ep)))) (fun _ => by kernel_rfl) ?_
      refine pl_nil ?_
      refine au_then ?_
      refine au_then ?_
      refine wp_ret ?_
      have e0 : (enB ev eh el ep) = (((bs [4]) ++ (be4 (cv .u64 (cv .u32 el)))) ++ (be2 (cv .u64 ep))) := by simp only [enB, if_neg (Bool.eq_false_iff.1 c0)]
      exact bodyPost_ret (v := .string (((bs [4]) ++ (be4 (cv .u64 (cv .u32 el)))) ++ (be2 (cv .u64 ep)))) (results_tmp1 Try.results64 _ _ _ (by kernel_rfl)) (by kernel_rfl) ⟨by rw [e0], below_grown M.old⟩
    have s6 : ∀ (a : Act) (l : Array Bool) (x_22 : Value) (w0 : World), a = ⟨#[.agg (av 4 (ls [.bool (ev), .int .u64 eh, .int .u64 el, .int .u16 ep])), .pointer (some ⟨g1, 0, none⟩), .string ⟨#[]⟩, .pointer (some ⟨g1, 0, none⟩), .pointer (some ⟨g1, 0, none⟩), .bool false, undef, undef, undef, undef, undef, undef, undef, undef, undef, undef, undef, undef, undef, undef, undef, undef, x_22, .string (bs [4]), .pointer (some ⟨g1, 0, none⟩), .pointer (some ⟨g1, 2, none⟩), .int .u64 el, .int .u32 (cv .u32 el), .string (be4 (cv .u64 (cv .u32 el))), .string ((bs [4]) ++ (be4 (cv .u64 (cv .u32 el)))), .pointer (some ⟨g1, 3, none⟩), .int .u16 ep, undef, undef], []⟩ → l = #[true, true, true, true, true, true, true, true, true, true, false, false, false] → Mem ⟨w, []⟩ [⟨g1, .cells (av 4 (ls [.bool (ev), .int .u64 eh, .int .u64 el, .int .u16 ep])) 28⟩] w0 → H 3 l a w0 := by
      intro a l  x_22 u0 ha hl M
      subst ha hl
      refine hB _ _ _ _ ?_
      refine hl_one 10 (by decide) (by kernel_rfl) rfl ?_
      refine pl_call M (want_no rfl) (some 32) rfl 63 #[.int .u16 ep] (.string (be2 (cv .u64 ep))) (fun _ => by kernel_rfl) (fun w M => c_U16 ep w M.laid) ?_
      intro u5 M
      refine pl_nil ?_
      refine au_then ?_
      refine ⟨M, ?_⟩
      refine hl_val M 11 rfl (by decide) (by kernel_rfl) (by kernel_rfl) (want_no rfl) (some 33) rfl (.string (((bs [4]) ++ (be4 (cv .u64 (cv .u32 el)))) ++ (be2 (cv .u64 ep)))) (fun w _ => (run_cat 9 9 _ _ rfl ((bs [4]) ++ (be4 (cv .u64 (cv .u32 el)))) (be2 (cv .u64 ep)) (by kernel_rfl) (by kernel_rfl) (by (try simp only [ByteArray.size_append, ByteArray.size_extract, be2_size, be4_size, be8_size, bs_size, sz_mk, List.size_toArray, List.length_cons, List.length_nil]); omega)) w) ?_
      exact hA _ _ _ _ (s8 _ _ (x_22) _ (by kernel_rfl) (by kernel_rfl) M)
    have s7 : ∀ (a : Act) (l : Array Bool) (g2 : Nat) (w0 : World), a = ⟨#[.agg (av 4 (ls [.bool (ev), .int .u64 eh, .int .u64 el, .int .u16 ep])), .pointer (some ⟨g1, 0, none⟩), .string ⟨#[]⟩, .pointer (some ⟨g1, 0, none⟩), .pointer (some ⟨g1, 0, none⟩), .bool false, undef, undef, undef, undef, undef, undef, undef, undef, undef, undef, undef, undef, undef, undef, undef, undef, .slice (some ⟨g2, 0, none⟩) 1 1, undef, .pointer (some ⟨g1, 0, none⟩), .pointer (some ⟨g1, 2, none⟩), .int .u64 el, .int .u32 (cv .u32 el), .string (be4 (cv .u64 (cv .u32 el))), undef, .pointer (some ⟨g1, 3, none⟩), .int .u16 ep, .string (be2 (cv .u64 ep)), undef], []⟩ → l = #[true, false, true, true, true, true, true, false, true, true, true, false, false] → Mem ⟨w, []⟩ [⟨g1, .cells (av 4 (ls [.bool (ev), .int .u64 eh, .int .u64 el, .int .u16 ep])) 28⟩, ⟨g2, .cells (av 1 (ls [.int .u8 4])) 5⟩] w0 → H 4 l a w0 := by
      intro a l g2  u0 ha hl M
      subst ha hl
      refine hB _ _ _ _ ?_
      refine hl_one 1 (by decide) (by kernel_rfl) rfl ?_
      refine pl_back M (want_no rfl) (some 23) rfl _ rfl 1 g2 1 1 (by kernel_rfl) _ rfl [4] 1 (sb_ls [4] _) rfl (by intro x hx; simp only [List.mem_cons, List.mem_nil_iff, or_false] at hx; subst hx; omega) ?_
      refine pl_nil ?_
      refine au_then ?_
      refine ⟨(M.drop (.cons_cons _ (.cons _ (.slnil)))), ?_⟩
      refine hl_val (M.drop (.cons_cons _ (.cons _ (.slnil)))) 7 rfl (by decide) (by kernel_rfl) (by kernel_rfl) (want_no rfl) (some 29) rfl (.string ((bs [4]) ++ (be4 (cv .u64 (cv .u32 el))))) (fun w _ => (run_cat 9 9 _ _ rfl (bs [4]) (be4 (cv .u64 (cv .u32 el))) (by kernel_rfl) (by kernel_rfl) (by (try simp only [ByteArray.size_append, ByteArray.size_extract, be2_size, be4_size, be8_size, bs_size, sz_mk, List.size_toArray, List.length_cons, List.length_nil]); omega)) w) ?_
      refine hl_val (M.drop (.cons_cons _ (.cons _ (.slnil)))) 11 rfl (by decide) (by kernel_rfl) (by kernel_rfl) (want_no rfl) (some 33) rfl (.string (((bs [4]) ++ (be4 (cv .u64 (cv .u32 el)))) ++ (be2 (cv .u64 ep)))) (fun w _ => (run_cat 9 9 _ _ rfl ((bs [4]) ++ (be4 (cv .u64 (cv .u32 el)))) (be2 (cv .u64 ep)) (by kernel_rfl) (by kernel_rfl) (by (try simp only [ByteArray.size_append, ByteArray.size_extract, be2_size, be4_size, be8_size, bs_size, sz_mk, List.size_toArray, List.length_cons, List.length_nil]); omega)) w) ?_
      exact hA _ _ _ _ (s8 _ _ (.slice (some ⟨g2, 0, none⟩) 1 1) _ (by kernel_rfl) (by kernel_rfl) (M.drop (.cons_cons _ (.cons _ (.slnil)))))
    have s3 : ∀ (a : Act) (l : Array Bool) (x_22 : Value) (w0 : World), a = ⟨#[.agg (av 4 (ls [.bool (ev), .int .u64 eh, .int .u64 el, .int .u16 ep])), .pointer (some ⟨g1, 0, none⟩), .string ⟨#[]⟩, .pointer (some ⟨g1, 0, none⟩), .pointer (some ⟨g1, 0, none⟩), .bool false, undef, undef, undef, undef, undef, undef, undef, undef, undef, undef, undef, undef, undef, undef, undef, undef, x_22, .string (bs [4]), .pointer (some ⟨g1, 0, none⟩), .pointer (some ⟨g1, 2, none⟩), .int .u64 el, .int .u32 (cv .u32 el), undef, undef, .pointer (some ⟨g1, 3, none⟩), .int .u16 ep, undef, undef], []⟩ → l = #[true, true, true, true, true, true, false, false, true, true, false, false, false] → Mem ⟨w, []⟩ [⟨g1, .cells (av 4 (ls [.bool (ev), .int .u64 eh, .int .u64 el, .int .u16 ep])) 28⟩] w0 → H 5 l a w0 := by
      intro a l  x_22 u0 ha hl M
      subst ha hl
      refine hB _ _ _ _ ?_
      refine hl_one 6 (by decide) (by kernel_rfl) rfl ?_
      refine pl_call M (want_no rfl) (some 28) rfl 61 #[.int .u32 (cv .u32 el)] (.string (be4 (cv .u64 (cv .u32 el)))) (fun _ => by kernel_rfl) (fun w M => c_U32 (cv .u32 el) w M.laid) ?_
      intro u4 M
      refine pl_nil ?_
      refine au_then ?_
      refine ⟨M, ?_⟩
      refine hl_val M 7 rfl (by decide) (by kernel_rfl) (by kernel_rfl) (want_no rfl) (some 29) rfl (.string ((bs [4]) ++ (be4 (cv .u64 (cv .u32 el))))) (fun w _ => (run_cat 9 9 _ _ rfl (bs [4]) (be4 (cv .u64 (cv .u32 el))) (by kernel_rfl) (by kernel_rfl) (by (try simp only [ByteArray.size_append, ByteArray.size_extract, be2_size, be4_size, be8_size, bs_size, sz_mk, List.size_toArray, List.length_cons, List.length_nil]); omega)) w) ?_
      exact hA _ _ _ _ (s6 _ _ (x_22) _ (by kernel_rfl) (by kernel_rfl) M)
    have s4 : ∀ (a : Act) (l : Array Bool) (g2 : Nat) (w0 : World), a = ⟨#[.agg (av 4 (ls [.bool (ev), .int .u64 eh, .int .u64 el, .int .u16 ep])), .pointer (some ⟨g1, 0, none⟩), .string ⟨#[]⟩, .pointer (some ⟨g1, 0, none⟩), .pointer (some ⟨g1, 0, none⟩), .bool false, undef, undef, undef, undef, undef, undef, undef, undef, undef, undef, undef, undef, undef, undef, undef, undef, .slice (some ⟨g2, 0, none⟩) 1 1, undef, .pointer (some ⟨g1, 0, none⟩), .pointer (some ⟨g1, 2, none⟩), .int .u64 el, .int .u32 (cv .u32 el), .string (be4 (cv .u64 (cv .u32 el))), undef, .pointer (some ⟨g1, 3, none⟩), .int .u16 ep, undef, undef], []⟩ → l = #[true, false, true, true, true, true, true, false, true, true, false, false, false] → Mem ⟨w, []⟩ [⟨g1, .cells (av 4 (ls [.bool (ev), .int .u64 eh, .int .u64 el, .int .u16 ep])) 28⟩, ⟨g2, .cells (av 1 (ls [.int .u8 4])) 5⟩] w0 → H 5 l a w0 := by
      intro a l g2  u0 ha hl M
      subst ha hl
      refine hB _ _ _ _ ?_
      refine hl_two 1 10 (by decide) (by decide) (by kernel_rfl) rfl rfl ?_ ?_
      · skip
        refine pl_back M (want_no rfl) (some 23) rfl _ rfl 1 g2 1 1 (by kernel_rfl) _ rfl [4] 1 (sb_ls [4] _) rfl (by intro x hx; simp only [List.mem_cons, List.mem_nil_iff, or_false] at hx; subst hx; omega) ?_
        refine pl_nil ?_
        refine au_then ?_
        refine ⟨(M.drop (.cons_cons _ (.cons _ (.slnil)))), ?_⟩
        refine hl_val (M.drop (.cons_cons _ (.cons _ (.slnil)))) 7 rfl (by decide) (by kernel_rfl) (by kernel_rfl) (want_no rfl) (some 29) rfl (.string ((bs [4]) ++ (be4 (cv .u64 (cv .u32 el))))) (fun w _ => (run_cat 9 9 _ _ rfl (bs [4]) (be4 (cv .u64 (cv .u32 el))) (by kernel_rfl) (by kernel_rfl) (by (try simp only [ByteArray.size_append, ByteArray.size_extract, be2_size, be4_size, be8_size, bs_size, sz_mk, List.size_toArray, List.length_cons, List.length_nil]); omega)) w) ?_
        exact hA _ _ _ _ (s6 _ _ (.slice (some ⟨g2, 0, none⟩) 1 1) _ (by kernel_rfl) (by kernel_rfl) (M.drop (.cons_cons _ (.cons _ (.slnil)))))
      · skip
        refine pl_call M (want_no rfl) (some 32) rfl 63 #[.int .u16 ep] (.string (be2 (cv .u64 ep))) (fun _ => by kernel_rfl) (fun w M => c_U16 ep w M.laid) ?_
        intro u5 M
        refine pl_nil ?_
        refine au_then ?_
        refine ⟨(M.drop (.cons_cons _ (.cons _ (.slnil)))), ?_⟩
        exact hA _ _ _ _ (s7 _ _ g2 _ (by kernel_rfl) (by kernel_rfl) M)
    have s5 : ∀ (a : Act) (l : Array Bool) (w0 : World), a = ⟨#[.agg (av 4 (ls [.bool (ev), .int .u64 eh, .int .u64 el, .int .u16 ep])), .pointer (some ⟨g1, 0, none⟩), .string ⟨#[]⟩, .pointer (some ⟨g1, 0, none⟩), .pointer (some ⟨g1, 0, none⟩), .bool false, undef, undef, undef, undef, undef, undef, undef, undef, undef, undef, undef, undef, undef, undef, undef, undef, undef, undef, .pointer (some ⟨g1, 0, none⟩), .pointer (some ⟨g1, 2, none⟩), .int .u64 el, .int .u32 (cv .u32 el), .string (be4 (cv .u64 (cv .u32 el))), undef, .pointer (some ⟨g1, 3, none⟩), .int .u16 ep, .string (be2 (cv .u64 ep)), undef], []⟩ → l = #[false, false, true, true, true, true, true, false, true, true, true, false, false] → Mem ⟨w, []⟩ [⟨g1, .cells (av 4 (ls [.bool (ev), .int .u64 eh, .int .u64 el, .int .u16 ep])) 28⟩] w0 → H 5 l a w0 := by
      intro a l   u0 ha hl M
      subst ha hl
      refine hB _ _ _ _ ?_
      refine hl_one 0 (by decide) (by kernel_rfl) rfl ?_
      refine pl_mk M (want_no rfl) (some 22) rfl (fun g2 => .slice (some ⟨g2, 0, none⟩) 1 1) (.cells (av 1 (ls [.int .u8 4])) 5) (fun _ => by kernel_rfl) ?_
      intro g2 u5 M
      replace M : Mem ⟨w, []⟩ [⟨g1, .cells (av 4 (ls [.bool (ev), .int .u64 eh, .int .u64 el, .int .u16 ep])) 28⟩, ⟨g2, .cells (av 1 (ls [.int .u8 4])) 5⟩] u5 := M
      refine pl_nil ?_
      refine au_then ?_
      refine ⟨(M.drop (.cons_cons _ (.cons _ (.slnil)))), ?_⟩
      exact hA _ _ _ _ (s7 _ _ g2 _ (by kernel_rfl) (by kernel_rfl) M)
    have s1 : ∀ (a : Act) (l : Array Bool) (g2 : Nat) (w0 : World), a = ⟨#[.agg (av 4 (ls [.bool (ev), .int .u64 eh, .int .u64 el, .int .u16 ep])), .pointer (some ⟨g1, 0, none⟩), .string ⟨#[]⟩, .pointer (some ⟨g1, 0, none⟩), .pointer (some ⟨g1, 0, none⟩), .bool false, undef, undef, undef, undef, undef, undef, undef, undef, undef, undef, undef, undef, undef, undef, undef, undef, .slice (some ⟨g2, 0, none⟩) 1 1, undef, .pointer (some ⟨g1, 0, none⟩), .pointer (some ⟨g1, 2, none⟩), .int .u64 el, .int .u32 (cv .u32 el), undef, undef, .pointer (some ⟨g1, 3, none⟩), .int .u16 ep, undef, undef], []⟩ → l = #[true, false, true, true, true, true, false, false, true, true, false, false, false] → Mem ⟨w, []⟩ [⟨g1, .cells (av 4 (ls [.bool (ev), .int .u64 eh, .int .u64 el, .int .u16 ep])) 28⟩, ⟨g2, .cells (av 1 (ls [.int .u8 4])) 5⟩] w0 → H 6 l a w0 := by
      intro a l g2  u0 ha hl M
      subst ha hl
      refine hB _ _ _ _ ?_
      refine hl_two 1 6 (by decide) (by decide) (by kernel_rfl) rfl rfl ?_ ?_
      · skip
        refine pl_back M (want_no rfl) (some 23) rfl _ rfl 1 g2 1 1 (by kernel_rfl) _ rfl [4] 1 (sb_ls [4] _) rfl (by intro x hx; simp only [List.mem_cons, List.mem_nil_iff, or_false] at hx; subst hx; omega) ?_
        refine pl_nil ?_
        refine au_then ?_
        refine ⟨(M.drop (.cons_cons _ (.cons _ (.slnil)))), ?_⟩
        exact hA _ _ _ _ (s3 _ _ (.slice (some ⟨g2, 0, none⟩) 1 1) _ (by kernel_rfl) (by kernel_rfl) (M.drop (.cons_cons _ (.cons _ (.slnil)))))
      · skip
        refine pl_call M (want_no rfl) (some 28) rfl 61 #[.int .u32 (cv .u32 el)] (.string (be4 (cv .u64 (cv .u32 el)))) (fun _ => by kernel_rfl) (fun w M => c_U32 (cv .u32 el) w M.laid) ?_
        intro u4 M
        refine pl_nil ?_
        refine au_then ?_
        refine ⟨(M.drop (.cons_cons _ (.cons _ (.slnil)))), ?_⟩
        exact hA _ _ _ _ (s4 _ _ g2 _ (by kernel_rfl) (by kernel_rfl) M)
    have s2 : ∀ (a : Act) (l : Array Bool) (w0 : World), a = ⟨#[.agg (av 4 (ls [.bool (ev), .int .u64 eh, .int .u64 el, .int .u16 ep])), .pointer (some ⟨g1, 0, none⟩), .string ⟨#[]⟩, .pointer (some ⟨g1, 0, none⟩), .pointer (some ⟨g1, 0, none⟩), .bool false, undef, undef, undef, undef, undef, undef, undef, undef, undef, undef, undef, undef, undef, undef, undef, undef, undef, undef, .pointer (some ⟨g1, 0, none⟩), .pointer (some ⟨g1, 2, none⟩), .int .u64 el, .int .u32 (cv .u32 el), .string (be4 (cv .u64 (cv .u32 el))), undef, .pointer (some ⟨g1, 3, none⟩), .int .u16 ep, undef, undef], []⟩ → l = #[false, false, true, true, true, true, true, false, true, true, false, false, false] → Mem ⟨w, []⟩ [⟨g1, .cells (av 4 (ls [.bool (ev), .int .u64 eh, .int .u64 el, .int .u16 ep])) 28⟩] w0 → H 6 l a w0 := by
      intro a l   u0 ha hl M
      subst ha hl
      refine hB _ _ _ _ ?_
      refine hl_two 0 10 (by decide) (by decide) (by kernel_rfl) rfl rfl ?_ ?_
      · skip
        refine pl_mk M (want_no rfl) (some 22) rfl (fun g2 => .slice (some ⟨g2, 0, none⟩) 1 1) (.cells (av 1 (ls [.int .u8 4])) 5) (fun _ => by kernel_rfl) ?_
        intro g2 u4 M
        replace M : Mem ⟨w, []⟩ [⟨g1, .cells (av 4 (ls [.bool (ev), .int .u64 eh, .int .u64 el, .int .u16 ep])) 28⟩, ⟨g2, .cells (av 1 (ls [.int .u8 4])) 5⟩] u4 := M
        refine pl_nil ?_
        refine au_then ?_
        refine ⟨(M.drop (.cons_cons _ (.cons _ (.slnil)))), ?_⟩
        exact hA _ _ _ _ (s4 _ _ g2 _ (by kernel_rfl) (by kernel_rfl) M)
      · skip
        refine pl_call M (want_no rfl) (some 32) rfl 63 #[.int .u16 ep] (.string (be2 (cv .u64 ep))) (fun _ => by kernel_rfl) (fun w M => c_U16 ep w M.laid) ?_
        intro u4 M
        refine pl_nil ?_
        refine au_then ?_
        refine ⟨M, ?_⟩
        exact hA _ _ _ _ (s5 _ _  _ (by kernel_rfl) (by kernel_rfl) M)
    have s0 : ∀ (a : Act) (l : Array Bool) (w0 : World), a = ⟨#[.agg (av 4 (ls [.bool (ev), .int .u64 eh, .int .u64 el, .int .u16 ep])), .pointer (some ⟨g1, 0, none⟩), .string ⟨#[]⟩, .pointer (some ⟨g1, 0, none⟩), .pointer (some ⟨g1, 0, none⟩), .bool false, undef, undef, undef, undef, undef, undef, undef, undef, undef, undef, undef, undef, undef, undef, undef, undef, undef, undef, .pointer (some ⟨g1, 0, none⟩), .pointer (some ⟨g1, 2, none⟩), .int .u64 el, .int .u32 (cv .u32 el), undef, undef, .pointer (some ⟨g1, 3, none⟩), .int .u16 ep, undef, undef], []⟩ → l = #[false, false, true, true, true, true, false, false, true, true, false, false, false] → Mem ⟨w, []⟩ [⟨g1, .cells (av 4 (ls [.bool (ev), .int .u64 eh, .int .u64 el, .int .u16 ep])) 28⟩] w0 → H 7 l a w0 := by
      intro a l   u0 ha hl M
      subst ha hl
      refine hB _ _ _ _ ?_
      refine hl_two 0 6 (by decide) (by decide) (by kernel_rfl) rfl rfl ?_ ?_
      · skip
        refine pl_mk M (want_no rfl) (some 22) rfl (fun g2 => .slice (some ⟨g2, 0, none⟩) 1 1) (.cells (av 1 (ls [.int .u8 4])) 5) (fun _ => by kernel_rfl) ?_
        intro g2 u3 M
        replace M : Mem ⟨w, []⟩ [⟨g1, .cells (av 4 (ls [.bool (ev), .int .u64 eh, .int .u64 el, .int .u16 ep])) 28⟩, ⟨g2, .cells (av 1 (ls [.int .u8 4])) 5⟩] u3 := M
        refine pl_nil ?_
        refine au_then ?_
        refine ⟨(M.drop (.cons_cons _ (.cons _ (.slnil)))), ?_⟩
        exact hA _ _ _ _ (s1 _ _ g2 _ (by kernel_rfl) (by kernel_rfl) M)
      · skip
        refine pl_call M (want_no rfl) (some 28) rfl 61 #[.int .u32 (cv .u32 el)] (.string (be4 (cv .u64 (cv .u32 el)))) (fun _ => by kernel_rfl) (fun w M => c_U32 (cv .u32 el) w M.laid) ?_
        intro u3 M
        refine pl_nil ?_
        refine au_then ?_
        refine ⟨M, ?_⟩
        exact hA _ _ _ _ (s2 _ _  _ (by kernel_rfl) (by kernel_rfl) M)
    exact s0 _ _  _ (by kernel_rfl) (by kernel_rfl) M

set_option maxRecDepth 100000 in
set_option maxHeartbeats 4000000 in
set_option linter.unusedSimpArgs false in
theorem c_bytesOf (o : Int) (v : Vl) (hz : v.t.size ≤ 200000) (w : World) (hL : Laid w)  :
    Calls Try.prog 41 #[.int .u16 o, .agg (av 6 (ls [.int .u64 v.n, .string v.t, .bool (v.v), .int .u64 v.h, .int .u64 v.l, .int .u16 v.p]))] w fun r w' => r = .returned (.string (byF o v)) ∧ Below w.heap.size w w' := by
  go_enter Try.func41, Try.ntmps41
  have M := Mem.start hL
  refine wp_seq ?_
  refine rg_lit ?_
  refine pl_new M (want_no rfl) (some 3) rfl (.cells (av 6 (ls [.int .u64 v.n, .string v.t, .bool (v.v), .int .u64 v.h, .int .u64 v.l, .int .u16 v.p])) 86) (fun _ => by kernel_rfl) ?_
  intro g1 u1 M
  replace M : Mem ⟨w, []⟩ [⟨g1, .cells (av 6 (ls [.int .u64 v.n, .string v.t, .bool (v.v), .int .u64 v.h, .int .u64 v.l, .int .u16 v.p])) 86⟩] u1 := M
  refine pl_val (want_no rfl) (some 4) rfl (.string ⟨#[]⟩) (fun _ => by kernel_rfl) ?_
  refine pl_nil ?_
  refine au_then ?_
  refine wp_seq ?_
  refine wp_seq ?_
  refine rg_lit ?_
  refine pl_val (want_no rfl) (some 7) rfl (.int .u16 o) (fun _ => by kernel_rfl) ?_
  refine pl_nil ?_
  refine au_then ?_
  refine wp_block ?_
  refine wp_seq ?_
  refine wp_seq ?_
  refine rg_lit ?_
  by_cases c0 : o = 4
  · skip
    refine pl_val (want_no rfl) (some 9) rfl (.bool true) (fun w => Eq.trans (b := .ok (.value (.bool (decide (o = 4)))) w) (by kernel_rfl) (by rw [decide_eq_true (c0)])) ?_
    refine pl_val (want_no rfl) (some 8) rfl (.bool true) (fun _ => by kernel_rfl) ?_
    refine pl_nil ?_
    refine au_then ?_
    refine wp_cond_true (by kernel_rfl) ?_
    refine wp_skip ?_
    refine au_then ?_
    refine wp_cond_true (by kernel_rfl) ?_
    refine wp_seq ?_
    refine rg_lit ?_
    refine pl_val (want_no rfl) (some 11) rfl (.pointer (some ⟨g1, 0, none⟩)) (fun _ => by kernel_rfl) ?_
    refine pl_cell M (want_no rfl) (some 12) rfl 23 _ rfl g1 0 (by kernel_rfl) (.int .u64 v.n) (fun _ => by kernel_rfl) (fun w M => M.cell 0 rfl (by decide) rfl) ?_
    refine pl_val (want_no rfl) (some 13) rfl (.int .u32 (cv .u32 v.n)) (fun _ => by kernel_rfl) ?_
    refine pl_call M (want_no rfl) (some 14) rfl 61 #[.int .u32 (cv .u32 v.n)] (.string (be4 (cv .u64 (cv .u32 v.n)))) (fun _ => by kernel_rfl) (fun w M => c_U32 (cv .u32 v.n) w M.laid) ?_
    intro u2 M
    refine pl_val (want_no rfl) (some 4) rfl (.string (be4 (cv .u64 (cv .u32 v.n)))) (fun _ => by kernel_rfl) ?_
    refine pl_nil ?_
    refine au_then ?_
    refine wp_ret ?_
    refine au_block_ret ?_
    refine au_then_ret ?_
    have e0 : (byF o v) = (be4 (cv .u64 (cv .u32 v.n))) := by simp only [byF, if_pos c0]
    exact bodyPost_ret (v := .string (be4 (cv .u64 (cv .u32 v.n)))) (results_tmp1 Try.results41 _ _ _ (by kernel_rfl)) (by kernel_rfl) ⟨by rw [e0], below_grown M.old⟩
  · skip
    refine pl_val (want_no rfl) (some 9) rfl (.bool false) (fun w => Eq.trans (b := .ok (.value (.bool (decide (o = 4)))) w) (by kernel_rfl) (by rw [decide_eq_false (c0)])) ?_
    refine pl_val (want_no rfl) (some 8) rfl (.bool false) (fun _ => by kernel_rfl) ?_
    refine pl_nil ?_
    refine au_then ?_
    refine wp_cond_false (by kernel_rfl) ?_
    refine rg_lit ?_
    by_cases c1 : o = 8
    · skip
      refine pl_val (want_no rfl) (some 10) rfl (.bool true) (fun w => Eq.trans (b := .ok (.value (.bool (decide (o = 8)))) w) (by kernel_rfl) (by rw [decide_eq_true (c1)])) ?_
      refine pl_val (want_no rfl) (some 8) rfl (.bool true) (fun _ => by kernel_rfl) ?_
      refine pl_nil ?_
      refine au_then ?_
      refine wp_cond_true (by kernel_rfl) ?_
      refine wp_seq ?_
      refine rg_lit ?_
      refine pl_val (want_no rfl) (some 11) rfl (.pointer (some ⟨g1, 0, none⟩)) (fun _ => by kernel_rfl) ?_
      refine pl_cell M (want_no rfl) (some 12) rfl 23 _ rfl g1 0 (by kernel_rfl) (.int .u64 v.n) (fun _ => by kernel_rfl) (fun w M => M.cell 0 rfl (by decide) rfl) ?_
      refine pl_val (want_no rfl) (some 13) rfl (.int .u32 (cv .u32 v.n)) (fun _ => by kernel_rfl) ?_
      refine pl_call M (want_no rfl) (some 14) rfl 61 #[.int .u32 (cv .u32 v.n)] (.string (be4 (cv .u64 (cv .u32 v.n)))) (fun _ => by kernel_rfl) (fun w M => c_U32 (cv .u32 v.n) w M.laid) ?_
      intro u2 M
      refine pl_val (want_no rfl) (some 4) rfl (.string (be4 (cv .u64 (cv .u32 v.n)))) (fun _ => by kernel_rfl) ?_
      refine pl_nil ?_
      refine au_then ?_
      refine wp_ret ?_
      refine au_block_ret ?_
      refine au_then_ret ?_
      have e0 : (byF o v) = (be4 (cv .u64 (cv .u32 v.n))) := by simp only [byF, if_neg c0, if_pos c1]
      exact bodyPost_ret (v := .string (be4 (cv .u64 (cv .u32 v.n)))) (results_tmp1 Try.results41 _ _ _ (by kernel_rfl)) (by kernel_rfl) ⟨by rw [e0], below_grown M.old⟩
    · skip
      refine pl_val (want_no rfl) (some 10) rfl (.bool false) (fun w => Eq.trans (b := .ok (.value (.bool (decide (o = 8)))) w) (by kernel_rfl) (by rw [decide_eq_false (c1)])) ?_
      refine pl_val (want_no rfl) (some 8) rfl (.bool false) (fun _ => by kernel_rfl) ?_
      refine pl_nil ?_
      refine au_then ?_
      refine wp_cond_false (by kernel_rfl) ?_
      refine wp_seq ?_
      refine wp_seq ?_
      refine rg_lit ?_
      by_cases c2 : o = 16
      · skip
        refine pl_val (want_no rfl) (some 16) rfl (.bool true) (fun w => Eq.trans (b := .ok (.value (.bool (decide (o = 16)))) w) (by kernel_rfl) (by rw [decide_eq_true (c2)])) ?_
        refine pl_val (want_no rfl) (some 15) rfl (.bool true) (fun _ => by kernel_rfl) ?_
        refine pl_nil ?_
        refine au_then ?_
        refine wp_cond_true (by kernel_rfl) ?_
        refine wp_skip ?_
        refine au_then ?_
        refine wp_cond_true (by kernel_rfl) ?_
        refine wp_seq ?_
        refine rg_lit ?_
        refine pl_val (want_no rfl) (some 19) rfl (.pointer (some ⟨g1, 0, none⟩)) (fun _ => by kernel_rfl) ?_
        refine pl_cell M (want_no rfl) (some 20) rfl 23 _ rfl g1 0 (by kernel_rfl) (.int .u64 v.n) (fun _ => by kernel_rfl) (fun w M => M.cell 0 rfl (by decide) rfl) ?_
        refine pl_call M (want_no rfl) (some 21) rfl 62 #[.int .u64 v.n] (.string (be8 v.n)) (fun _ => by kernel_rfl) (fun w M => c_U64 v.n w M.laid) ?_
        intro u2 M
        refine pl_val (want_no rfl) (some 4) rfl (.string (be8 v.n)) (fun _ => by kernel_rfl) ?_
        refine pl_nil ?_
        refine au_then ?_
        refine wp_ret ?_
        refine au_block_ret ?_
        refine au_then_ret ?_
        have e0 : (byF o v) = (be8 v.n) := by simp only [byF, if_neg c0, if_neg c1, if_pos c2]
        exact bodyPost_ret (v := .string (be8 v.n)) (results_tmp1 Try.results41 _ _ _ (by kernel_rfl)) (by kernel_rfl) ⟨by rw [e0], below_grown M.old⟩
      · skip
        refine pl_val (want_no rfl) (some 16) rfl (.bool false) (fun w => Eq.trans (b := .ok (.value (.bool (decide (o = 16)))) w) (by kernel_rfl) (by rw [decide_eq_false (c2)])) ?_
        refine pl_val (want_no rfl) (some 15) rfl (.bool false) (fun _ => by kernel_rfl) ?_
        refine pl_nil ?_
        refine au_then ?_
        refine wp_cond_false (by kernel_rfl) ?_
        refine wp_seq ?_
        refine rg_lit ?_
        by_cases c3 : o = 32
        · skip
          refine pl_val (want_no rfl) (some 17) rfl (.bool true) (fun w => Eq.trans (b := .ok (.value (.bool (decide (o = 32)))) w) (by kernel_rfl) (by rw [decide_eq_true (c3)])) ?_
          refine pl_val (want_no rfl) (some 15) rfl (.bool true) (fun _ => by kernel_rfl) ?_
          refine pl_nil ?_
          refine au_then ?_
          refine wp_cond_true (by kernel_rfl) ?_
          refine wp_skip ?_
          refine au_then ?_
          refine wp_cond_true (by kernel_rfl) ?_
          refine wp_seq ?_
          refine rg_lit ?_
          refine pl_val (want_no rfl) (some 19) rfl (.pointer (some ⟨g1, 0, none⟩)) (fun _ => by kernel_rfl) ?_
          refine pl_cell M (want_no rfl) (some 20) rfl 23 _ rfl g1 0 (by kernel_rfl) (.int .u64 v.n) (fun _ => by kernel_rfl) (fun w M => M.cell 0 rfl (by decide) rfl) ?_
          refine pl_call M (want_no rfl) (some 21) rfl 62 #[.int .u64 v.n] (.string (be8 v.n)) (fun _ => by kernel_rfl) (fun w M => c_U64 v.n w M.laid) ?_
          intro u2 M
          refine pl_val (want_no rfl) (some 4) rfl (.string (be8 v.n)) (fun _ => by kernel_rfl) ?_
          refine pl_nil ?_
          refine au_then ?_
          refine wp_ret ?_
          refine au_block_ret ?_
          refine au_then_ret ?_
          have e0 : (byF o v) = (be8 v.n) := by simp only [byF, if_neg c0, if_neg c1, if_neg c2, if_pos c3]
          exact bodyPost_ret (v := .string (be8 v.n)) (results_tmp1 Try.results41 _ _ _ (by kernel_rfl)) (by kernel_rfl) ⟨by rw [e0], below_grown M.old⟩
        · skip
          refine pl_val (want_no rfl) (some 17) rfl (.bool false) (fun w => Eq.trans (b := .ok (.value (.bool (decide (o = 32)))) w) (by kernel_rfl) (by rw [decide_eq_false (c3)])) ?_
          refine pl_val (want_no rfl) (some 15) rfl (.bool false) (fun _ => by kernel_rfl) ?_
          refine pl_nil ?_
          refine au_then ?_
          refine wp_cond_false (by kernel_rfl) ?_
          refine rg_lit ?_
          by_cases c4 : o = 64
          · skip
            refine pl_val (want_no rfl) (some 18) rfl (.bool true) (fun w => Eq.trans (b := .ok (.value (.bool (decide (o = 64)))) w) (by kernel_rfl) (by rw [decide_eq_true (c4)])) ?_
            refine pl_val (want_no rfl) (some 15) rfl (.bool true) (fun _ => by kernel_rfl) ?_
            refine pl_nil ?_
            refine au_then ?_
            refine wp_cond_true (by kernel_rfl) ?_
            refine wp_seq ?_
            refine rg_lit ?_
            refine pl_val (want_no rfl) (some 19) rfl (.pointer (some ⟨g1, 0, none⟩)) (fun _ => by kernel_rfl) ?_
            refine pl_cell M (want_no rfl) (some 20) rfl 23 _ rfl g1 0 (by kernel_rfl) (.int .u64 v.n) (fun _ => by kernel_rfl) (fun w M => M.cell 0 rfl (by decide) rfl) ?_
            refine pl_call M (want_no rfl) (some 21) rfl 62 #[.int .u64 v.n] (.string (be8 v.n)) (fun _ => by kernel_rfl) (fun w M => c_U64 v.n w M.laid) ?_
            intro u2 M
            refine pl_val (want_no rfl) (some 4) rfl (.string (be8 v.n)) (fun _ => by kernel_rfl) ?_
            refine pl_nil ?_
            refine au_then ?_
            refine wp_ret ?_
            refine au_block_ret ?_
            refine au_then_ret ?_
            have e0 : (byF o v) = (be8 v.n) := by simp only [byF, if_neg c0, if_neg c1, if_neg c2, if_neg c3, if_pos c4]
            exact bodyPost_ret (v := .string (be8 v.n)) (results_tmp1 Try.results41 _ _ _ (by kernel_rfl)) (by kernel_rfl) ⟨by rw [e0], below_grown M.old⟩
          · skip
            refine pl_val (want_no rfl) (some 18) rfl (.bool false) (fun w => Eq.trans (b := .ok (.value (.bool (decide (o = 64)))) w) (by kernel_rfl) (by rw [decide_eq_false (c4)])) ?_
            refine pl_val (want_no rfl) (some 15) rfl (.bool false) (fun _ => by kernel_rfl) ?_
            refine pl_nil ?_
            refine au_then ?_
            refine wp_cond_false (by kernel_rfl) ?_
            refine wp_seq ?_
            refine rg_lit ?_
            by_cases c5 : o = 512
            · skip
              refine pl_val (want_no rfl) (some 23) rfl (.bool true) (fun w => Eq.trans (b := .ok (.value (.bool (decide (o = 512)))) w) (by kernel_rfl) (by rw [decide_eq_true (c5)])) ?_
              refine pl_val (want_no rfl) (some 22) rfl (.bool true) (fun _ => by kernel_rfl) ?_
              refine pl_nil ?_
              refine au_then ?_
              refine wp_cond_true (by kernel_rfl) ?_
              refine wp_seq ?_
              refine rg_lit ?_
              refine pl_val (want_no rfl) (some 24) rfl (.pointer (some ⟨g1, 0, none⟩)) (fun _ => by kernel_rfl) ?_
              refine pl_cell M (want_no rfl) (some 25) rfl 23 _ rfl g1 0 (by kernel_rfl) (.int .u64 v.n) (fun _ => by kernel_rfl) (fun w M => M.cell 0 rfl (by decide) rfl) ?_
              refine pl_val (want_no rfl) (some 26) rfl (.int .u16 (cv .u16 v.n)) (fun _ => by kernel_rfl) ?_
              refine pl_call M (want_no rfl) (some 27) rfl 63 #[.int .u16 (cv .u16 v.n)] (.string (be2 (cv .u64 (cv .u16 v.n)))) (fun _ => by kernel_rfl) (fun w M => c_U16 (cv .u16 v.n) w M.laid) ?_
              intro u2 M
              refine pl_val (want_no rfl) (some 4) rfl (.string (be2 (cv .u64 (cv .u16 v.n)))) (fun _ => by kernel_rfl) ?_
              refine pl_nil ?_
              refine au_then ?_
              refine wp_ret ?_
              refine au_block_ret ?_
              refine au_then_ret ?_
              have e0 : (byF o v) = (be2 (cv .u64 (cv .u16 v.n))) := by simp only [byF, if_neg c0, if_neg c1, if_neg c2, if_neg c3, if_neg c4, if_pos c5]
              exact bodyPost_ret (v := .string (be2 (cv .u64 (cv .u16 v.n)))) (results_tmp1 Try.results41 _ _ _ (by kernel_rfl)) (by kernel_rfl) ⟨by rw [e0], below_grown M.old⟩
            · skip
              refine pl_val (want_no rfl) (some 23) rfl (.bool false) (fun w => Eq.trans (b := .ok (.value (.bool (decide (o = 512)))) w) (by kernel_rfl) (by rw [decide_eq_false (c5)])) ?_
              refine pl_val (want_no rfl) (some 22) rfl (.bool false) (fun _ => by kernel_rfl) ?_
              refine pl_nil ?_
              refine au_then ?_
              refine wp_cond_false (by kernel_rfl) ?_
              refine wp_seq ?_
              refine rg_lit ?_
              by_cases c6 : o = 256
              · skip
                refine pl_val (want_no rfl) (some 29) rfl (.bool true) (fun w => Eq.trans (b := .ok (.value (.bool (decide (o = 256)))) w) (by kernel_rfl) (by rw [decide_eq_true (c6)])) ?_
                refine pl_val (want_no rfl) (some 28) rfl (.bool true) (fun _ => by kernel_rfl) ?_
                refine pl_nil ?_
                refine au_then ?_
                refine wp_cond_true (by kernel_rfl) ?_
                refine wp_seq ?_
                refine rg_lit ?_
                refine pl_val (want_no rfl) (some 30) rfl (.pointer (some ⟨g1, 2, none⟩)) (fun _ => by kernel_rfl) ?_
                refine pl_load M (want_no rfl) (some 31) rfl 28 _ rfl 0 g1 2 (by kernel_rfl) 6 86 (ls [.int .u64 v.n, .string v.t, .bool (v.v), .int .u64 v.h, .int .u64 v.l, .int .u16 v.p]) rfl 4 (ls [.bool (v.v), .int .u64 v.h, .int .u64 v.l, .int .u16 v.p]) (part_ls _ 2 4 _ rfl) (by decide) _ Try.underlying28 rfl inz28 ?_
                refine pl_call M (want_no rfl) (some 32) rfl 64 #[.agg (av 4 (ls [.bool (v.v), .int .u64 v.h, .int .u64 v.l, .int .u16 v.p]))] (.string (enB v.v v.h v.l v.p)) (fun _ => by kernel_rfl) (fun w M => c_endBytes v.v v.h v.l v.p w M.laid) ?_
                intro u2 M
                refine pl_val (want_no rfl) (some 4) rfl (.string (enB v.v v.h v.l v.p)) (fun _ => by kernel_rfl) ?_
                refine pl_nil ?_
                refine au_then ?_
                refine wp_ret ?_
                refine au_block_ret ?_
                refine au_then_ret ?_
                have e0 : (byF o v) = (enB v.v v.h v.l v.p) := by simp only [byF, if_neg c0, if_neg c1, if_neg c2, if_neg c3, if_neg c4, if_neg c5, if_pos c6]
                exact bodyPost_ret (v := .string (enB v.v v.h v.l v.p)) (results_tmp1 Try.results41 _ _ _ (by kernel_rfl)) (by kernel_rfl) ⟨by rw [e0], below_grown M.old⟩
              · skip
                refine pl_val (want_no rfl) (some 29) rfl (.bool false) (fun w => Eq.trans (b := .ok (.value (.bool (decide (o = 256)))) w) (by kernel_rfl) (by rw [decide_eq_false (c6)])) ?_
                refine pl_val (want_no rfl) (some 28) rfl (.bool false) (fun _ => by kernel_rfl) ?_
                refine pl_nil ?_
                refine au_then ?_
                refine wp_cond_false (by kernel_rfl) ?_
                refine wp_seq ?_
                refine wp_seq ?_
                refine rg_lit ?_
                by_cases c7 : o = 1024
                · skip
                  refine pl_val (want_no rfl) (some 34) rfl (.bool true) (fun w => Eq.trans (b := .ok (.value (.bool (decide (o = 1024)))) w) (by kernel_rfl) (by rw [decide_eq_true (c7)])) ?_
                  refine pl_val (want_no rfl) (some 33) rfl (.bool true) (fun _ => by kernel_rfl) ?_
                  refine pl_nil ?_
                  refine au_then ?_
                  refine wp_cond_true (by kernel_rfl) ?_
                  refine wp_skip ?_
                  refine au_then ?_
                  refine wp_cond_true (by kernel_rfl) ?_
                  refine wp_seq ?_
                  refine rg_lit ?_
                  refine pl_val (want_no rfl) (some 37) rfl (.pointer (some ⟨g1, 1, none⟩)) (fun _ => by kernel_rfl) ?_
                  refine pl_cell M (want_no rfl) (some 38) rfl 9 _ rfl g1 1 (by kernel_rfl) (.string v.t) (fun _ => by kernel_rfl) (fun w M => M.cell 0 rfl (by decide) rfl) ?_
                  refine pl_call M (want_no rfl) (some 39) rfl 65 #[.string v.t] (.tuple #[.string (wtS v.t), .int .i64 (wtE v.t)]) (fun _ => by kernel_rfl) (fun w M => c_WText v.t (by omega) w M.laid) ?_
                  intro u2 M
                  refine pl_val (want_no rfl) (some 36) rfl (.tuple #[.string (wtS v.t), .int .i64 (wtE v.t)]) (fun _ => by kernel_rfl) ?_
                  refine pl_val (want_no rfl) (some 40) rfl (.string (wtS v.t)) (fun _ => by kernel_rfl) ?_
                  refine pl_val (want_no rfl) (some 41) rfl (.int .i64 (wtE v.t)) (fun _ => by kernel_rfl) ?_
                  refine pl_val (want_no rfl) (some 5) rfl (.string (wtS v.t)) (fun _ => by kernel_rfl) ?_
                  refine pl_val (want_no rfl) (some 6) rfl (.int .i64 (wtE v.t)) (fun _ => by kernel_rfl) ?_
                  refine pl_nil ?_
                  refine au_then ?_
                  refine wp_seq ?_
                  refine rg_lit ?_
                  refine pl_val (want_no rfl) (some 42) rfl (.string (wtS v.t)) (fun _ => by kernel_rfl) ?_
                  refine pl_val (want_no rfl) (some 4) rfl (.string (wtS v.t)) (fun _ => by kernel_rfl) ?_
                  refine pl_nil ?_
                  refine au_then ?_
                  refine wp_ret ?_
                  refine au_block_ret ?_
                  refine au_then_ret ?_
                  have e0 : (byF o v) = (wtS v.t) := by simp only [byF, if_neg c0, if_neg c1, if_neg c2, if_neg c3, if_neg c4, if_neg c5, if_neg c6, if_pos c7]
                  exact bodyPost_ret (v := .string (wtS v.t)) (results_tmp1 Try.results41 _ _ _ (by kernel_rfl)) (by kernel_rfl) ⟨by rw [e0], below_grown M.old⟩
                · skip
                  refine pl_val (want_no rfl) (some 34) rfl (.bool false) (fun w => Eq.trans (b := .ok (.value (.bool (decide (o = 1024)))) w) (by kernel_rfl) (by rw [decide_eq_false (c7)])) ?_
                  refine pl_val (want_no rfl) (some 33) rfl (.bool false) (fun _ => by kernel_rfl) ?_
                  refine pl_nil ?_
                  refine au_then ?_
                  refine wp_cond_false (by kernel_rfl) ?_
                  refine rg_lit ?_
                  by_cases c8 : o = 2048
                  · skip
                    refine pl_val (want_no rfl) (some 35) rfl (.bool true) (fun w => Eq.trans (b := .ok (.value (.bool (decide (o = 2048)))) w) (by kernel_rfl) (by rw [decide_eq_true (c8)])) ?_
                    refine pl_val (want_no rfl) (some 33) rfl (.bool true) (fun _ => by kernel_rfl) ?_
                    refine pl_nil ?_
                    refine au_then ?_
                    refine wp_cond_true (by kernel_rfl) ?_
                    refine wp_seq ?_
                    refine rg_lit ?_
                    refine pl_val (want_no rfl) (some 37) rfl (.pointer (some ⟨g1, 1, none⟩)) (fun _ => by kernel_rfl) ?_
                    refine pl_cell M (want_no rfl) (some 38) rfl 9 _ rfl g1 1 (by kernel_rfl) (.string v.t) (fun _ => by kernel_rfl) (fun w M => M.cell 0 rfl (by decide) rfl) ?_
                    refine pl_call M (want_no rfl) (some 39) rfl 65 #[.string v.t] (.tuple #[.string (wtS v.t), .int .i64 (wtE v.t)]) (fun _ => by kernel_rfl) (fun w M => c_WText v.t (by omega) w M.laid) ?_
                    intro u2 M
                    refine pl_val (want_no rfl) (some 36) rfl (.tuple #[.string (wtS v.t), .int .i64 (wtE v.t)]) (fun _ => by kernel_rfl) ?_
                    refine pl_val (want_no rfl) (some 40) rfl (.string (wtS v.t)) (fun _ => by kernel_rfl) ?_
                    refine pl_val (want_no rfl) (some 41) rfl (.int .i64 (wtE v.t)) (fun _ => by kernel_rfl) ?_
                    refine pl_val (want_no rfl) (some 5) rfl (.string (wtS v.t)) (fun _ => by kernel_rfl) ?_
                    refine pl_val (want_no rfl) (some 6) rfl (.int .i64 (wtE v.t)) (fun _ => by kernel_rfl) ?_
                    refine pl_nil ?_
                    refine au_then ?_
                    refine wp_seq ?_
                    refine rg_lit ?_
                    refine pl_val (want_no rfl) (some 42) rfl (.string (wtS v.t)) (fun _ => by kernel_rfl) ?_
                    refine pl_val (want_no rfl) (some 4) rfl (.string (wtS v.t)) (fun _ => by kernel_rfl) ?_
                    refine pl_nil ?_
                    refine au_then ?_
                    refine wp_ret ?_
                    refine au_block_ret ?_
                    refine au_then_ret ?_
                    have e0 : (byF o v) = (wtS v.t) := by simp only [byF, if_neg c0, if_neg c1, if_neg c2, if_neg c3, if_neg c4, if_neg c5, if_neg c6, if_neg c7, if_pos c8]
                    exact bodyPost_ret (v := .string (wtS v.t)) (results_tmp1 Try.results41 _ _ _ (by kernel_rfl)) (by kernel_rfl) ⟨by rw [e0], below_grown M.old⟩
                  · skip
                    refine pl_val (want_no rfl) (some 35) rfl (.bool false) (fun w => Eq.trans (b := .ok (.value (.bool (decide (o = 2048)))) w) (by kernel_rfl) (by rw [decide_eq_false (c8)])) ?_
                    refine pl_val (want_no rfl) (some 33) rfl (.bool false) (fun _ => by kernel_rfl) ?_
                    refine pl_nil ?_
                    refine au_then ?_
                    refine wp_cond_false (by kernel_rfl) ?_
                    refine wp_skip ?_
                    refine au_block ?_
                    refine au_then ?_
                    refine wp_seq ?_
                    refine rg_lit ?_
                    refine pl_val (want_no rfl) (some 43) rfl (.pointer (some ⟨g1, 1, none⟩)) (fun _ => by kernel_rfl) ?_
                    refine pl_cell M (want_no rfl) (some 44) rfl 9 _ rfl g1 1 (by kernel_rfl) (.string v.t) (fun _ => by kernel_rfl) (fun w M => M.cell 0 rfl (by decide) rfl) ?_
                    refine pl_val (want_no rfl) (some 4) rfl (.string v.t) (fun _ => by kernel_rfl) ?_
                    refine pl_nil ?_
                    refine au_then ?_
                    refine wp_ret ?_
                    have e0 : (byF o v) = v.t := by simp only [byF, if_neg c0, if_neg c1, if_neg c2, if_neg c3, if_neg c4, if_neg c5, if_neg c6, if_neg c7, if_neg c8]
                    exact bodyPost_ret (v := .string v.t) (results_tmp1 Try.results41 _ _ _ (by kernel_rfl)) (by kernel_rfl) ⟨by rw [e0], below_grown M.old⟩

set_option maxRecDepth 100000 in
set_option maxHeartbeats 4000000 in
set_option linter.unusedSimpArgs false in
theorem c_write (g : Nat) (h : Int) (x : ByteArray) (T : List Blk) (hWR : WR g h x T) (o : Int) (v : Vl) (hv : v.t.size ≤ 200000) (hz : x.size + v.t.size < 999000) (w : World) (hL : Laid w) (hT : ∀ b ∈ T, w.heap[b.g]? = some b.Z) (hn : (T.map Blk.g).Nodup) :
    Calls Try.prog 22 #[.pointer (some ⟨g, 0, none⟩), .int .u16 o, .agg (av 6 (ls [.int .u64 v.n, .string v.t, .bool (v.v), .int .u64 v.h, .int .u64 v.l, .int .u16 v.p]))] w fun e w' => e = .returned (.agg (av 6 (vlL v))) ∧ ∃ T', WR g h (wrF x h o v) T' ∧ OkT w w' T T' := by
  go_enter Try.func22, Try.ntmps22
  have M := Mem.start hL
  obtain ⟨gb, cap, Z, rfl, hs⟩ := hWR
  refine wp_seq ?_
  refine rg_lit ?_
  refine pl_new M (want_no rfl) (some 5) rfl (.cells (av 6 (ls [.int .u64 v.n, .string v.t, .bool (v.v), .int .u64 v.h, .int .u64 v.l, .int .u16 v.p])) 86) (fun _ => by kernel_rfl) ?_
  intro g1 u1 M
  replace M : Mem ⟨w, []⟩ [⟨g1, .cells (av 6 (ls [.int .u64 v.n, .string v.t, .bool (v.v), .int .u64 v.h, .int .u64 v.l, .int .u16 v.p])) 86⟩] u1 := M
  refine pl_new M (want_no rfl) (some 6) rfl (.cells (av 6 (ls [.int .u64 0, .string ⟨#[]⟩, .bool false, .int .u64 0, .int .u64 0, .int .u16 0])) 86) (fun _ => by kernel_rfl) ?_
  intro g2 u2 M
  replace M : Mem ⟨w, []⟩ [⟨g1, .cells (av 6 (ls [.int .u64 v.n, .string v.t, .bool (v.v), .int .u64 v.h, .int .u64 v.l, .int .u16 v.p])) 86⟩, ⟨g2, .cells (av 6 (ls [.int .u64 0, .string ⟨#[]⟩, .bool false, .int .u64 0, .int .u64 0, .int .u16 0])) 86⟩] u2 := M
  refine pl_nil ?_
  have M := Mem.join (T := [⟨g, .cells (av 3 (ls [.int .u16 h, .pointer (some ⟨g, 1, none⟩), .slice (some ⟨gb, 0, none⟩) x.size cap])) 59⟩, ⟨gb, Z⟩]) M hT hn
  replace M : Mem ⟨w, [g, gb]⟩ [⟨g1, .cells (av 6 (ls [.int .u64 v.n, .string v.t, .bool (v.v), .int .u64 v.h, .int .u64 v.l, .int .u16 v.p])) 86⟩, ⟨g2, .cells (av 6 (ls [.int .u64 0, .string ⟨#[]⟩, .bool false, .int .u64 0, .int .u64 0, .int .u16 0])) 86⟩, ⟨g, .cells (av 3 (ls [.int .u16 h, .pointer (some ⟨g, 1, none⟩), .slice (some ⟨gb, 0, none⟩) x.size cap])) 59⟩, ⟨gb, Z⟩] u2 := M
  refine au_then ?_
  refine wp_seq ?_
  refine wp_seq ?_
  refine rg_lit ?_
  refine pl_val (want_no rfl) (some 7) rfl (.pointer (some ⟨g, 0, none⟩)) (fun _ => by kernel_rfl) ?_
  refine pl_val (want_no rfl) (some 8) rfl (.pointer (some ⟨g, 0, none⟩)) (fun _ => by kernel_rfl) ?_
  refine pl_val (want_no rfl) (some 9) rfl (.pointer (some ⟨g, 0, none⟩)) (fun _ => by kernel_rfl) ?_
  refine pl_cell M (want_no rfl) (some 10) rfl 54 _ rfl g 0 (by kernel_rfl) (.int .u16 h) (fun _ => by kernel_rfl) (fun w M => M.cell 2 rfl (by decide) rfl) ?_
  refine pl_val (want_no rfl) (some 11) rfl (.int .u16 o) (fun _ => by kernel_rfl) ?_
  refine pl_val (want_no rfl) (some 12) rfl (.int .u16 (yn h o)) (fun _ => by kernel_rfl) ?_
  by_cases c0 : (yn h o) = 0
  · skip
    refine pl_val (want_no rfl) (some 13) rfl (.bool false) (fun w => Eq.trans (b := .ok (.value (.bool (!(decide ((yn h o) = 0))))) w) (by kernel_rfl) (by rw [decide_eq_true (c0)]; rfl)) ?_
    refine pl_nil ?_
    refine au_then ?_
    refine wp_cond_false (by kernel_rfl) ?_
    refine wp_skip ?_
    refine au_then ?_
    refine wp_seq ?_
    refine rg_lit ?_
    refine pl_load M (want_no rfl) (some 21) rfl 86 _ rfl 0 g1 0 (by kernel_rfl) 6 86 (ls [.int .u64 v.n, .string v.t, .bool (v.v), .int .u64 v.h, .int .u64 v.l, .int .u16 v.p]) rfl 6 (ls [.int .u64 v.n, .string v.t, .bool (v.v), .int .u64 v.h, .int .u64 v.l, .int .u16 v.p]) (fun j _ => by rw [Nat.zero_add]) (by decide) _ Try.underlying86 rfl inz86 ?_
    refine pl_put M (want_no rfl) rfl 86 _ _ rfl 1 g2 0 (by kernel_rfl) 6 86 (ls [.int .u64 0, .string ⟨#[]⟩, .bool false, .int .u64 0, .int .u64 0, .int .u16 0]) rfl 6 (ls [.int .u64 v.n, .string v.t, .bool (v.v), .int .u64 v.h, .int .u64 v.l, .int .u16 v.p]) (ls [.int .u64 v.n, .string v.t, .bool (v.v), .int .u64 v.h, .int .u64 v.l, .int .u16 v.p]) (by kernel_rfl) inz86 (by decide) (one_ls _ rfl) (fun j hj => by rw [if_pos (by omega), Nat.sub_zero]) ?_
    intro u3 M
    replace M : Mem ⟨w, [g, gb]⟩ [⟨g1, .cells (av 6 (ls [.int .u64 v.n, .string v.t, .bool (v.v), .int .u64 v.h, .int .u64 v.l, .int .u16 v.p])) 86⟩, ⟨g2, .cells (av 6 (ls [.int .u64 v.n, .string v.t, .bool (v.v), .int .u64 v.h, .int .u64 v.l, .int .u16 v.p])) 86⟩, ⟨g, .cells (av 3 (ls [.int .u16 h, .pointer (some ⟨g, 1, none⟩), .slice (some ⟨gb, 0, none⟩) x.size cap])) 59⟩, ⟨gb, Z⟩] u3 := M
    refine pl_nil ?_
    refine au_then ?_
    refine wp_ret ?_
    exact bodyPost_ret (v := .agg (av 6 (ls [.int .u64 v.n, .string v.t, .bool (v.v), .int .u64 v.h, .int .u64 v.l, .int .u16 v.p]))) (results_cell_row Try.results22 _ _ g2 86 (av 6 (ls [.int .u64 v.n, .string v.t, .bool (v.v), .int .u64 v.h, .int .u64 v.l, .int .u16 v.p])) (0, 0) _ (by kernel_rfl) (M.get 1 rfl) Try.underlying86 rfl (by rw [av_size]; exact inz86)) (by kernel_rfl) ⟨rfl, _, by unfold wrF; rw [if_pos c0]; exact ⟨gb, cap, Z, rfl, hs⟩, Mem.okT (T := [⟨g, .cells (av 3 (ls [.int .u16 h, .pointer (some ⟨g, 1, none⟩), .slice (some ⟨gb, 0, none⟩) x.size cap])) 59⟩, ⟨gb, Z⟩]) (L := [⟨g1, .cells (av 6 (ls [.int .u64 v.n, .string v.t, .bool (v.v), .int .u64 v.h, .int .u64 v.l, .int .u16 v.p])) 86⟩, ⟨g2, .cells (av 6 (ls [.int .u64 v.n, .string v.t, .bool (v.v), .int .u64 v.h, .int .u64 v.l, .int .u16 v.p])) 86⟩]) M⟩
  · skip
    refine pl_val (want_no rfl) (some 13) rfl (.bool true) (fun w => Eq.trans (b := .ok (.value (.bool (!(decide ((yn h o) = 0))))) w) (by kernel_rfl) (by rw [decide_eq_false (c0)]; rfl)) ?_
    refine pl_nil ?_
    refine au_then ?_
    refine wp_cond_true (by kernel_rfl) ?_
    refine rg_tail M 6 (by kernel_rfl) (by kernel_rfl) ?_
    simp only [List.take_succ_cons, List.take_zero]
    refine k_val (want_no rfl) (some 14) rfl (.pointer (some ⟨g, 0, none⟩)) (fun _ => by kernel_rfl) ?_
    refine k_val (want_no rfl) (some 15) rfl (.pointer (some ⟨g, 0, none⟩)) (fun _ => by kernel_rfl) ?_
    refine k_val (want_no rfl) (some 16) rfl (.pointer (some ⟨g, 1, none⟩)) (fun _ => by kernel_rfl) ?_
    refine k_val (want_no rfl) (some 17) rfl (.int .u16 o) (fun _ => by kernel_rfl) ?_
    refine k_load M (want_no rfl) (some 18) rfl 86 _ rfl 0 g1 0 (by kernel_rfl) 6 86 (ls [.int .u64 v.n, .string v.t, .bool (v.v), .int .u64 v.h, .int .u64 v.l, .int .u16 v.p]) rfl 6 (ls [.int .u64 v.n, .string v.t, .bool (v.v), .int .u64 v.h, .int .u64 v.l, .int .u16 v.p]) (fun j _ => by rw [Nat.zero_add]) (by decide) _ Try.underlying86 rfl inz86 ?_
    refine k_call M (want_no rfl) (some 19) rfl 41 #[.int .u16 o, .agg (av 6 (ls [.int .u64 v.n, .string v.t, .bool (v.v), .int .u64 v.h, .int .u64 v.l, .int .u16 v.p]))] (.string (byF o v)) (fun _ => by kernel_rfl) (fun w M => c_bytesOf o v (by omega) w M.laid) ?_
    refine kl_nil ?_
    intro u3 M
    replace M : Mem ⟨w, [g, gb]⟩ [⟨g1, .cells (av 6 (ls [.int .u64 v.n, .string v.t, .bool (v.v), .int .u64 v.h, .int .u64 v.l, .int .u16 v.p])) 86⟩, ⟨g2, .cells (av 6 (ls [.int .u64 0, .string ⟨#[]⟩, .bool false, .int .u64 0, .int .u64 0, .int .u16 0])) 86⟩, ⟨g, .cells (av 3 (ls [.int .u16 h, .pointer (some ⟨g, 1, none⟩), .slice (some ⟨gb, 0, none⟩) x.size cap])) 59⟩, ⟨gb, Z⟩] u3 := M
    refine pl_callT (L := [⟨g1, .cells (av 6 (ls [.int .u64 v.n, .string v.t, .bool (v.v), .int .u64 v.h, .int .u64 v.l, .int .u16 v.p])) 86⟩, ⟨g2, .cells (av 6 (ls [.int .u64 0, .string ⟨#[]⟩, .bool false, .int .u64 0, .int .u64 0, .int .u16 0])) 86⟩]) (T := [⟨g, .cells (av 3 (ls [.int .u16 h, .pointer (some ⟨g, 1, none⟩), .slice (some ⟨gb, 0, none⟩) x.size cap])) 59⟩, ⟨gb, Z⟩]) M (want_no rfl) (some 20) rfl 40 #[.pointer (some ⟨g, 1, none⟩), .string (byF o v)] (.tuple #[.int .i64 ((byF o v).size : Int), .nilIface]) (WR g h (x ++ (byF o v))) (fun _ => by kernel_rfl) (fun w h1 h2 => c_wstr g h x _ ⟨gb, cap, Z, rfl, hs⟩ (byF o v) (by have := byF_le o v; omega) w trivial h1 h2) ?_
    intro T9 u4 hW9 M
    obtain ⟨g9, cap9, Z9, rfl, hs9⟩ := hW9
    replace M : Mem ⟨w, [g, gb]⟩ [⟨g1, .cells (av 6 (ls [.int .u64 v.n, .string v.t, .bool (v.v), .int .u64 v.h, .int .u64 v.l, .int .u16 v.p])) 86⟩, ⟨g2, .cells (av 6 (ls [.int .u64 0, .string ⟨#[]⟩, .bool false, .int .u64 0, .int .u64 0, .int .u16 0])) 86⟩, ⟨g, .cells (av 3 (ls [.int .u16 h, .pointer (some ⟨g, 1, none⟩), .slice (some ⟨g9, 0, none⟩) (x ++ (byF o v)).size cap9])) 59⟩, ⟨g9, Z9⟩] u4 := M
    refine pl_nil ?_
    refine au_then ?_
    refine wp_seq ?_
    refine rg_lit ?_
    refine pl_load M (want_no rfl) (some 21) rfl 86 _ rfl 0 g1 0 (by kernel_rfl) 6 86 (ls [.int .u64 v.n, .string v.t, .bool (v.v), .int .u64 v.h, .int .u64 v.l, .int .u16 v.p]) rfl 6 (ls [.int .u64 v.n, .string v.t, .bool (v.v), .int .u64 v.h, .int .u64 v.l, .int .u16 v.p]) (fun j _ => by rw [Nat.zero_add]) (by decide) _ Try.underlying86 rfl inz86 ?_
    refine pl_put M (want_no rfl) rfl 86 _ _ rfl 1 g2 0 (by kernel_rfl) 6 86 (ls [.int .u64 0, .string ⟨#[]⟩, .bool false, .int .u64 0, .int .u64 0, .int .u16 0]) rfl 6 (ls [.int .u64 v.n, .string v.t, .bool (v.v), .int .u64 v.h, .int .u64 v.l, .int .u16 v.p]) (ls [.int .u64 v.n, .string v.t, .bool (v.v), .int .u64 v.h, .int .u64 v.l, .int .u16 v.p]) (by kernel_rfl) inz86 (by decide) (one_ls _ rfl) (fun j hj => by rw [if_pos (by omega), Nat.sub_zero]) ?_
    intro u5 M
    replace M : Mem ⟨w, [g, gb]⟩ [⟨g1, .cells (av 6 (ls [.int .u64 v.n, .string v.t, .bool (v.v), .int .u64 v.h, .int .u64 v.l, .int .u16 v.p])) 86⟩, ⟨g2, .cells (av 6 (ls [.int .u64 v.n, .string v.t, .bool (v.v), .int .u64 v.h, .int .u64 v.l, .int .u16 v.p])) 86⟩, ⟨g, .cells (av 3 (ls [.int .u16 h, .pointer (some ⟨g, 1, none⟩), .slice (some ⟨g9, 0, none⟩) (x ++ (byF o v)).size cap9])) 59⟩, ⟨g9, Z9⟩] u5 := M
    refine pl_nil ?_
    refine au_then ?_
    refine wp_ret ?_
    exact bodyPost_ret (v := .agg (av 6 (ls [.int .u64 v.n, .string v.t, .bool (v.v), .int .u64 v.h, .int .u64 v.l, .int .u16 v.p]))) (results_cell_row Try.results22 _ _ g2 86 (av 6 (ls [.int .u64 v.n, .string v.t, .bool (v.v), .int .u64 v.h, .int .u64 v.l, .int .u16 v.p])) (0, 0) _ (by kernel_rfl) (M.get 1 rfl) Try.underlying86 rfl (by rw [av_size]; exact inz86)) (by kernel_rfl) ⟨rfl, _, by unfold wrF; rw [if_neg c0]; exact ⟨g9, cap9, Z9, rfl, hs9⟩, Mem.okT (T := [⟨g, .cells (av 3 (ls [.int .u16 h, .pointer (some ⟨g, 1, none⟩), .slice (some ⟨gb, 0, none⟩) x.size cap])) 59⟩, ⟨gb, Z⟩]) (L := [⟨g1, .cells (av 6 (ls [.int .u64 v.n, .string v.t, .bool (v.v), .int .u64 v.h, .int .u64 v.l, .int .u16 v.p])) 86⟩, ⟨g2, .cells (av 6 (ls [.int .u64 v.n, .string v.t, .bool (v.v), .int .u64 v.h, .int .u64 v.l, .int .u16 v.p])) 86⟩]) M⟩

theorem st_wr (g : Nat) (h : Int) (m : Mg) (hm : smM m) : ∀ k, k < 13 → ∀ T w, WR g h (wrS m h k) T → (∀ b ∈ T, w.heap[b.g]? = some b.Z) → (T.map Blk.g).Nodup → Calls Try.prog 22 #[.pointer (some ⟨g, 0, none⟩), .int .u16 (bitV k), .agg (av 6 (vlL (inV m k)))] w fun e w' => e = .returned (.agg (av 6 (vlL (inV m k)))) ∧ ∃ T', WR g h (wrS m h (k + 1)) T' ∧ OkT w w' T T' := by
  intro k hk T w hW h1 h2
  have a1 := inV_le hm k
  have a2 := wrS_le hm h k
  exact c_write g h (wrS m h k) T hW (bitV k) (inV m k) (by omega) (by omega) w trivial h1 h2
set_option maxRecDepth 100000 in
set_option maxHeartbeats 4000000 in
set_option linter.unusedSimpArgs false in
theorem c_writerOf (t : Int) (ht : 0 ≤ t ∧ t < 256) (w : World) (hL : Laid w)  :
    Calls Try.prog 20 #[.int .u8 t] w fun e w' => ∃ g k Z Y, e = .returned (.pointer (some ⟨g, 0, none⟩)) ∧ WR g (shP t) (bs [t]) [⟨g, Z⟩, ⟨k, Y⟩] ∧ w.heap.size ≤ g ∧ w.heap.size ≤ k ∧ g ≠ k ∧ w'.heap[g]? = some Z ∧ w'.heap[k]? = some Y ∧ Below w.heap.size w w' := by
  go_enter Try.func20, Try.ntmps20
  have M := Mem.start hL
  refine wp_seq ?_
  refine rg_lit ?_
  refine pl_val (want_no rfl) (some 2) rfl (.pointer none) (fun _ => by kernel_rfl) ?_
  refine pl_nil ?_
  refine au_then ?_
  refine wp_seq ?_
  refine rg_lit ?_
  refine pl_val (want_no rfl) (some 4) rfl (.agg (av 3 (ls [.int .u16 0, .pointer none, .slice none 0 0]))) (fun _ => by kernel_rfl) ?_
  refine pl_new M (want_no rfl) (some 5) rfl (.cells (av 3 (ls [.int .u16 0, .pointer none, .slice none 0 0])) 59) (fun _ => by kernel_rfl) ?_
  intro g1 u1 M
  replace M : Mem ⟨w, []⟩ [⟨g1, .cells (av 3 (ls [.int .u16 0, .pointer none, .slice none 0 0])) 59⟩] u1 := M
  refine pl_val (want_no rfl) (some 3) rfl (.pointer (some ⟨g1, 0, none⟩)) (fun _ => by kernel_rfl) ?_
  refine pl_nil ?_
  refine au_then ?_
  refine wp_seq ?_
  refine rg_lit ?_
  refine pl_val (want_no rfl) (some 7) rfl (.pointer (some ⟨g1, 0, none⟩)) (fun _ => by kernel_rfl) ?_
  refine pl_val (want_no rfl) (some 8) rfl (.int .u8 t) (fun _ => by kernel_rfl) ?_
  refine pl_call M (want_no rfl) (some 9) rfl 26 #[.int .u8 t] (.tuple #[.string (nmP t), .int .u16 (shP t)]) (fun _ => by kernel_rfl) (fun w M => c_shapeOf t w M.laid) ?_
  intro u2 M
  refine pl_val (want_no rfl) (some 6) rfl (.tuple #[.string (nmP t), .int .u16 (shP t)]) (fun _ => by kernel_rfl) ?_
  refine pl_val (want_no rfl) (some 10) rfl (.string (nmP t)) (fun _ => by kernel_rfl) ?_
  refine pl_val (want_no rfl) (some 11) rfl (.int .u16 (shP t)) (fun _ => by kernel_rfl) ?_
  refine pl_val (want_no rfl) (some 12) rfl (.pointer (some ⟨g1, 0, none⟩)) (fun _ => by kernel_rfl) ?_
  refine pl_val (want_no rfl) (some 13) rfl (.pointer (some ⟨g1, 0, none⟩)) (fun _ => by kernel_rfl) ?_
  refine pl_put1 M (want_no rfl) rfl 54 _ _ rfl 0 g1 0 (by kernel_rfl) 3 59 (ls [.int .u16 0, .pointer none, .slice none 0 0]) rfl (.int .u16 (shP t)) (ls [.int .u16 (shP t), .pointer none, .slice none 0 0]) (by kernel_rfl) inz54 (by decide) rfl rfl (put_ls _ 0 _ _ rfl) ?_
  intro u3 M
  replace M : Mem ⟨w, []⟩ [⟨g1, .cells (av 3 (ls [.int .u16 (shP t), .pointer none, .slice none 0 0])) 59⟩] u3 := M
  refine pl_nil ?_
  refine au_then ?_
  refine wp_seq ?_
  refine rg_lit ?_
  refine pl_val (want_no rfl) (some 14) rfl (.pointer (some ⟨g1, 0, none⟩)) (fun _ => by kernel_rfl) ?_
  refine pl_val (want_no rfl) (some 15) rfl (.pointer (some ⟨g1, 0, none⟩)) (fun _ => by kernel_rfl) ?_
  refine pl_val (want_no rfl) (some 16) rfl (.pointer (some ⟨g1, 1, none⟩)) (fun _ => by kernel_rfl) ?_
  refine pl_val (want_no rfl) (some 17) rfl (.int .u8 t) (fun _ => by kernel_rfl) ?_
  refine pl_callT (L := []) (T := [⟨g1, .cells (av 3 (ls [.int .u16 (shP t), .pointer none, .slice none 0 0])) 59⟩]) M (want_no rfl) (some 18) rfl 39 #[.pointer (some ⟨g1, 1, none⟩), .int .u8 t] (.nilIface) (WR g1 (shP t) (bs [t])) (fun _ => by kernel_rfl) (fun w h1 h2 => c_wbyte g1 (shP t) t ht w trivial (h1 _ (List.mem_singleton.2 rfl))) ?_
  intro T9 u4 hW9 M
  obtain ⟨g9, cap9, Z9, rfl, hs9⟩ := hW9
  replace M : Mem ⟨w, []⟩ [⟨g1, .cells (av 3 (ls [.int .u16 (shP t), .pointer (some ⟨g1, 1, none⟩), .slice (some ⟨g9, 0, none⟩) (bs [t]).size cap9])) 59⟩, ⟨g9, Z9⟩] u4 := M
  refine pl_nil ?_
  refine au_then ?_
  refine wp_seq ?_
  refine rg_lit ?_
  refine pl_val (want_no rfl) (some 19) rfl (.pointer (some ⟨g1, 0, none⟩)) (fun _ => by kernel_rfl) ?_
  refine pl_val (want_no rfl) (some 2) rfl (.pointer (some ⟨g1, 0, none⟩)) (fun _ => by kernel_rfl) ?_
  refine pl_nil ?_
  refine au_then ?_
  refine wp_ret ?_
  exact bodyPost_ret (v := .pointer (some ⟨g1, 0, none⟩)) (results_tmp1 Try.results20 _ _ _ (by kernel_rfl)) (by kernel_rfl) ⟨g1, g9, _, Z9, rfl, ⟨g9, cap9, Z9, rfl, hs9⟩, M.geAt 0 rfl, M.geAt 1 rfl, nodup_at M.nodup (i := 0) (j := 1) rfl rfl (by decide), M.get 0 rfl, M.get 1 rfl, below_grown M.old⟩

set_option maxRecDepth 100000 in
set_option maxHeartbeats 4000000 in
set_option linter.unusedSimpArgs false in
theorem c_Encode (m : Mg) (ht : 0 ≤ m.ty ∧ m.ty < 256) (hm : smM m) (w : World) (hL : Laid w)  :
    Calls Try.prog 10 #[.agg (av 17 (ls [.int .u8 m.ty, .string m.fr, .string m.tq, .int .u32 m.ix, .int .u32 m.pe, .int .u64 m.ct, .int .u64 m.ba, .int .u64 m.ve, .string m.tx, .bool (m.ev), .int .u64 m.eh, .int .u64 m.el, .int .u16 m.ep, .int .u16 m.co, .string m.tt, .string m.da, .string m.sg]))] w fun r w' => r = .returned (.tuple #[.string (eO m), .int .i64 (mE m)]) ∧ Below w.heap.size w w' := by
  go_enter Try.func10, Try.ntmps10
  have M := Mem.start hL
  have hz1 := wrS_le hm (shP m.ty) 13
  have hz2 := wrS_ge m (shP m.ty) 13
  refine wp_seq ?_
  refine rg_lit ?_
  refine pl_new M (want_no rfl) (some 1) rfl (.cells (av 17 (ls [.int .u8 m.ty, .string m.fr, .string m.tq, .int .u32 m.ix, .int .u32 m.pe, .int .u64 m.ct, .int .u64 m.ba, .int .u64 m.ve, .string m.tx, .bool (m.ev), .int .u64 m.eh, .int .u64 m.el, .int .u16 m.ep, .int .u16 m.co, .string m.tt, .string m.da, .string m.sg])) 30) (fun _ => by kernel_rfl) ?_
  intro g1 u1 M
  replace M : Mem ⟨w, []⟩ [⟨g1, .cells (av 17 (ls [.int .u8 m.ty, .string m.fr, .string m.tq, .int .u32 m.ix, .int .u32 m.pe, .int .u64 m.ct, .int .u64 m.ba, .int .u64 m.ve, .string m.tx, .bool (m.ev), .int .u64 m.eh, .int .u64 m.el, .int .u16 m.ep, .int .u16 m.co, .string m.tt, .string m.da, .string m.sg])) 30⟩] u1 := M
  refine pl_val (want_no rfl) (some 2) rfl (.string ⟨#[]⟩) (fun _ => by kernel_rfl) ?_
  refine pl_val (want_no rfl) (some 3) rfl (.int .i64 0) (fun _ => by kernel_rfl) ?_
  refine pl_nil ?_
  refine au_then ?_
  refine wp_seq ?_
  refine wp_seq ?_
  refine rg_lit ?_
  refine pl_load M (want_no rfl) (some 6) rfl 30 _ rfl 0 g1 0 (by kernel_rfl) 17 30 (ls [.int .u8 m.ty, .string m.fr, .string m.tq, .int .u32 m.ix, .int .u32 m.pe, .int .u64 m.ct, .int .u64 m.ba, .int .u64 m.ve, .string m.tx, .bool (m.ev), .int .u64 m.eh, .int .u64 m.el, .int .u16 m.ep, .int .u16 m.co, .string m.tt, .string m.da, .string m.sg]) rfl 17 (ls [.int .u8 m.ty, .string m.fr, .string m.tq, .int .u32 m.ix, .int .u32 m.pe, .int .u64 m.ct, .int .u64 m.ba, .int .u64 m.ve, .string m.tx, .bool (m.ev), .int .u64 m.eh, .int .u64 m.el, .int .u16 m.ep, .int .u16 m.co, .string m.tt, .string m.da, .string m.sg]) (fun j _ => by rw [Nat.zero_add]) (by decide) _ Try.underlying30 rfl inz30 ?_
  refine pl_call M (want_no rfl) (some 7) rfl 14 #[.agg (av 17 (ls [.int .u8 m.ty, .string m.fr, .string m.tq, .int .u32 m.ix, .int .u32 m.pe, .int .u64 m.ct, .int .u64 m.ba, .int .u64 m.ve, .string m.tx, .bool (m.ev), .int .u64 m.eh, .int .u64 m.el, .int .u16 m.ep, .int .u16 m.co, .string m.tt, .string m.da, .string m.sg]))] (.int .i64 (mE m)) (fun _ => by kernel_rfl) (fun w M => c_MMay m w M.laid) ?_
  intro u2 M
  refine pl_val (want_no rfl) (some 4) rfl (.int .i64 (mE m)) (fun _ => by kernel_rfl) ?_
  refine pl_nil ?_
  refine au_then ?_
  refine wp_seq ?_
  refine rg_lit ?_
  refine pl_val (want_no rfl) (some 8) rfl (.int .i64 (mE m)) (fun _ => by kernel_rfl) ?_
  by_cases c0 : (mE m) = 0
  · skip
    refine pl_val (want_no rfl) (some 9) rfl (.bool false) (fun w => Eq.trans (b := .ok (.value (.bool (!(decide ((mE m) = 0))))) w) (by kernel_rfl) (by rw [decide_eq_true (c0)]; rfl)) ?_
    refine pl_nil ?_
    refine au_then ?_
    refine wp_cond_false (by kernel_rfl) ?_
    refine wp_skip ?_
    refine au_then ?_
    refine wp_seq ?_
    refine rg_lit ?_
    refine pl_val (want_no rfl) (some 11) rfl (.pointer (some ⟨g1, 0, none⟩)) (fun _ => by kernel_rfl) ?_
    refine pl_cell M (want_no rfl) (some 12) rfl 5 _ rfl g1 0 (by kernel_rfl) (.int .u8 m.ty) (fun _ => by kernel_rfl) (fun w M => M.cell 0 rfl (by decide) rfl) ?_
    refine pl_callm2 M (want_no rfl) (some 13) rfl 20 #[.int .u8 m.ty] (fun g => .pointer (some ⟨g, 0, none⟩)) (fun g k Z Y => WR g (shP m.ty) (bs [m.ty]) [⟨g, Z⟩, ⟨k, Y⟩]) (fun _ => by kernel_rfl) (fun w M => c_writerOf m.ty ht w M.laid) ?_
    intro g7 k7 Z7 Y7 u3 hW7 M
    replace M : Mem ⟨w, []⟩ [⟨g1, .cells (av 17 (ls [.int .u8 m.ty, .string m.fr, .string m.tq, .int .u32 m.ix, .int .u32 m.pe, .int .u64 m.ct, .int .u64 m.ba, .int .u64 m.ve, .string m.tx, .bool (m.ev), .int .u64 m.eh, .int .u64 m.el, .int .u16 m.ep, .int .u16 m.co, .string m.tt, .string m.da, .string m.sg])) 30⟩, ⟨g7, Z7⟩, ⟨k7, Y7⟩] u3 := M
    refine pl_val (want_no rfl) (some 5) rfl (.pointer (some ⟨g7, 0, none⟩)) (fun _ => by kernel_rfl) ?_
    refine pl_nil ?_
    refine au_then ?_
    refine wp_seq ?_
    refine rg_lit ?_
    refine pl_load M (want_no rfl) (some 14) rfl 30 _ rfl 0 g1 0 (by kernel_rfl) 17 30 (ls [.int .u8 m.ty, .string m.fr, .string m.tq, .int .u32 m.ix, .int .u32 m.pe, .int .u64 m.ct, .int .u64 m.ba, .int .u64 m.ve, .string m.tx, .bool (m.ev), .int .u64 m.eh, .int .u64 m.el, .int .u16 m.ep, .int .u16 m.co, .string m.tt, .string m.da, .string m.sg]) rfl 17 (ls [.int .u8 m.ty, .string m.fr, .string m.tq, .int .u32 m.ix, .int .u32 m.pe, .int .u64 m.ct, .int .u64 m.ba, .int .u64 m.ve, .string m.tx, .bool (m.ev), .int .u64 m.eh, .int .u64 m.el, .int .u16 m.ep, .int .u16 m.co, .string m.tt, .string m.da, .string m.sg]) (fun j _ => by rw [Nat.zero_add]) (by decide) _ Try.underlying30 rfl inz30 ?_
    refine pl_val (want_no rfl) (some 15) rfl (.pointer (some ⟨g7, 0, none⟩)) (fun _ => by kernel_rfl) ?_
    refine pl_val (want_no rfl) (some 16) rfl (.func (.func 22) #[.pointer (some ⟨g7, 0, none⟩)] #[]) (fun _ => by kernel_rfl) ?_
    refine pl_callT (L := [⟨g1, .cells (av 17 (ls [.int .u8 m.ty, .string m.fr, .string m.tq, .int .u32 m.ix, .int .u32 m.pe, .int .u64 m.ct, .int .u64 m.ba, .int .u64 m.ve, .string m.tx, .bool (m.ev), .int .u64 m.eh, .int .u64 m.el, .int .u16 m.ep, .int .u16 m.co, .string m.tt, .string m.da, .string m.sg])) 30⟩]) (T := [⟨g7, Z7⟩, ⟨k7, Y7⟩]) M (want_no rfl) (some 17) rfl 21 #[.agg (av 17 (ls [.int .u8 m.ty, .string m.fr, .string m.tq, .int .u32 m.ix, .int .u32 m.pe, .int .u64 m.ct, .int .u64 m.ba, .int .u64 m.ve, .string m.tx, .bool (m.ev), .int .u64 m.eh, .int .u64 m.el, .int .u16 m.ep, .int .u16 m.co, .string m.tt, .string m.da, .string m.sg])), .func (.func 22) #[.pointer (some ⟨g7, 0, none⟩)] #[]] (.agg (av 17 (mgL (outM m (inV m))))) (WR g7 (shP m.ty) (wrS m (shP m.ty) 13)) (fun _ => by kernel_rfl) (fun w h1 h2 => c_through 22 _ m (inV m) _ (fun k => WR g7 (shP m.ty) (wrS m (shP m.ty) k)) fn22 hW7 (st_wr g7 (shP m.ty) m hm) w trivial h1 h2) ?_
    intro T9 u4 hW9 M
    obtain ⟨g9, cap9, Z9, rfl, hs9⟩ := hW9
    replace M : Mem ⟨w, []⟩ [⟨g1, .cells (av 17 (ls [.int .u8 m.ty, .string m.fr, .string m.tq, .int .u32 m.ix, .int .u32 m.pe, .int .u64 m.ct, .int .u64 m.ba, .int .u64 m.ve, .string m.tx, .bool (m.ev), .int .u64 m.eh, .int .u64 m.el, .int .u16 m.ep, .int .u16 m.co, .string m.tt, .string m.da, .string m.sg])) 30⟩, ⟨g7, .cells (av 3 (ls [.int .u16 (shP m.ty), .pointer (some ⟨g7, 1, none⟩), .slice (some ⟨g9, 0, none⟩) (wrS m (shP m.ty) 13).size cap9])) 59⟩, ⟨g9, Z9⟩] u4 := M
    refine pl_nil ?_
    refine au_then ?_
    refine wp_seq ?_
    refine rg_lit ?_
    refine pl_val (want_no rfl) (some 18) rfl (.pointer (some ⟨g7, 0, none⟩)) (fun _ => by kernel_rfl) ?_
    refine pl_val (want_no rfl) (some 19) rfl (.pointer (some ⟨g7, 0, none⟩)) (fun _ => by kernel_rfl) ?_
    refine pl_val (want_no rfl) (some 20) rfl (.pointer (some ⟨g7, 1, none⟩)) (fun _ => by kernel_rfl) ?_
    refine pl_callT (L := [⟨g1, .cells (av 17 (ls [.int .u8 m.ty, .string m.fr, .string m.tq, .int .u32 m.ix, .int .u32 m.pe, .int .u64 m.ct, .int .u64 m.ba, .int .u64 m.ve, .string m.tx, .bool (m.ev), .int .u64 m.eh, .int .u64 m.el, .int .u16 m.ep, .int .u16 m.co, .string m.tt, .string m.da, .string m.sg])) 30⟩]) (T := [⟨g7, .cells (av 3 (ls [.int .u16 (shP m.ty), .pointer (some ⟨g7, 1, none⟩), .slice (some ⟨g9, 0, none⟩) (wrS m (shP m.ty) 13).size cap9])) 59⟩, ⟨g9, Z9⟩]) M (want_no rfl) (some 21) rfl 23 #[.pointer (some ⟨g7, 1, none⟩)] (.string (wrS m (shP m.ty) 13)) (fun _ => True) (fun _ => by kernel_rfl) (fun w h1 h2 => c_bstr g7 (shP m.ty) (wrS m (shP m.ty) 13) _ ⟨g9, cap9, Z9, rfl, hs9⟩ (by omega) (by omega) w trivial h1 h2) ?_
    intro T8 u5 _ M
    replace M := M.drop (L' := [⟨g1, .cells (av 17 (ls [.int .u8 m.ty, .string m.fr, .string m.tq, .int .u32 m.ix, .int .u32 m.pe, .int .u64 m.ct, .int .u64 m.ba, .int .u64 m.ve, .string m.tx, .bool (m.ev), .int .u64 m.eh, .int .u64 m.el, .int .u16 m.ep, .int .u16 m.co, .string m.tt, .string m.da, .string m.sg])) 30⟩]) (List.sublist_append_left _ _)
    replace M : Mem ⟨w, []⟩ [⟨g1, .cells (av 17 (ls [.int .u8 m.ty, .string m.fr, .string m.tq, .int .u32 m.ix, .int .u32 m.pe, .int .u64 m.ct, .int .u64 m.ba, .int .u64 m.ve, .string m.tx, .bool (m.ev), .int .u64 m.eh, .int .u64 m.el, .int .u16 m.ep, .int .u16 m.co, .string m.tt, .string m.da, .string m.sg])) 30⟩] u5 := M
    refine pl_val (want_no rfl) (some 2) rfl (.string (wrS m (shP m.ty) 13)) (fun _ => by kernel_rfl) ?_
    refine pl_val (want_no rfl) (some 3) rfl (.int .i64 0) (fun _ => by kernel_rfl) ?_
    refine pl_nil ?_
    refine au_then ?_
    refine wp_ret ?_
    have e0 : (eO m) = (wrS m (shP m.ty) 13) := by simp only [eO, if_pos c0]
    have e1 : (mE m) = 0 := c0
    exact bodyPost_ret (v := .tuple #[.string (wrS m (shP m.ty) 13), .int .i64 0]) (results_tmp2 Try.results10 _ _ _ _ (by kernel_rfl) (by kernel_rfl)) (by kernel_rfl) ⟨by rw [e0, e1], below_grown M.old⟩
  · skip
    refine pl_val (want_no rfl) (some 9) rfl (.bool true) (fun w => Eq.trans (b := .ok (.value (.bool (!(decide ((mE m) = 0))))) w) (by kernel_rfl) (by rw [decide_eq_false (c0)]; rfl)) ?_
    refine pl_nil ?_
    refine au_then ?_
    refine wp_cond_true (by kernel_rfl) ?_
    refine wp_seq ?_
    refine rg_lit ?_
    refine pl_val (want_no rfl) (some 10) rfl (.int .i64 (mE m)) (fun _ => by kernel_rfl) ?_
    refine pl_val (want_no rfl) (some 2) rfl (.string ⟨#[]⟩) (fun _ => by kernel_rfl) ?_
    refine pl_val (want_no rfl) (some 3) rfl (.int .i64 (mE m)) (fun _ => by kernel_rfl) ?_
    refine pl_nil ?_
    refine au_then ?_
    refine wp_ret ?_
    refine au_then_ret ?_
    have e0 : (eO m) = ⟨#[]⟩ := by simp only [eO, if_neg c0]
    exact bodyPost_ret (v := .tuple #[.string ⟨#[]⟩, .int .i64 (mE m)]) (results_tmp2 Try.results10 _ _ _ _ (by kernel_rfl) (by kernel_rfl)) (by kernel_rfl) ⟨by rw [e0], below_grown M.old⟩

set_option maxRecDepth 100000 in
set_option maxHeartbeats 4000000 in
set_option linter.unusedSimpArgs false in
theorem c_Size (m : Mg) (ht : 0 ≤ m.ty ∧ m.ty < 256) (hm : smM m) (w : World) (hL : Laid w)  :
    Calls Try.prog 16 #[.agg (av 17 (ls [.int .u8 m.ty, .string m.fr, .string m.tq, .int .u32 m.ix, .int .u32 m.pe, .int .u64 m.ct, .int .u64 m.ba, .int .u64 m.ve, .string m.tx, .bool (m.ev), .int .u64 m.eh, .int .u64 m.el, .int .u16 m.ep, .int .u16 m.co, .string m.tt, .string m.da, .string m.sg]))] w fun r w' => r = .returned (.int .i64 ((eO m).size : Int)) ∧ Below w.heap.size w w' := by
  go_enter Try.func16, Try.ntmps16
  have M := Mem.start hL
  refine wp_seq ?_
  refine rg_lit ?_
  refine pl_new M (want_no rfl) (some 1) rfl (.cells (av 17 (ls [.int .u8 m.ty, .string m.fr, .string m.tq, .int .u32 m.ix, .int .u32 m.pe, .int .u64 m.ct, .int .u64 m.ba, .int .u64 m.ve, .string m.tx, .bool (m.ev), .int .u64 m.eh, .int .u64 m.el, .int .u16 m.ep, .int .u16 m.co, .string m.tt, .string m.da, .string m.sg])) 30) (fun _ => by kernel_rfl) ?_
  intro g1 u1 M
  replace M : Mem ⟨w, []⟩ [⟨g1, .cells (av 17 (ls [.int .u8 m.ty, .string m.fr, .string m.tq, .int .u32 m.ix, .int .u32 m.pe, .int .u64 m.ct, .int .u64 m.ba, .int .u64 m.ve, .string m.tx, .bool (m.ev), .int .u64 m.eh, .int .u64 m.el, .int .u16 m.ep, .int .u16 m.co, .string m.tt, .string m.da, .string m.sg])) 30⟩] u1 := M
  refine pl_val (want_no rfl) (some 2) rfl (.int .i64 0) (fun _ => by kernel_rfl) ?_
  refine pl_nil ?_
  refine au_then ?_
  refine wp_seq ?_
  refine rg_lit ?_
  refine pl_load M (want_no rfl) (some 6) rfl 30 _ rfl 0 g1 0 (by kernel_rfl) 17 30 (ls [.int .u8 m.ty, .string m.fr, .string m.tq, .int .u32 m.ix, .int .u32 m.pe, .int .u64 m.ct, .int .u64 m.ba, .int .u64 m.ve, .string m.tx, .bool (m.ev), .int .u64 m.eh, .int .u64 m.el, .int .u16 m.ep, .int .u16 m.co, .string m.tt, .string m.da, .string m.sg]) rfl 17 (ls [.int .u8 m.ty, .string m.fr, .string m.tq, .int .u32 m.ix, .int .u32 m.pe, .int .u64 m.ct, .int .u64 m.ba, .int .u64 m.ve, .string m.tx, .bool (m.ev), .int .u64 m.eh, .int .u64 m.el, .int .u16 m.ep, .int .u16 m.co, .string m.tt, .string m.da, .string m.sg]) (fun j _ => by rw [Nat.zero_add]) (by decide) _ Try.underlying30 rfl inz30 ?_
  refine pl_call M (want_no rfl) (some 7) rfl 10 #[.agg (av 17 (ls [.int .u8 m.ty, .string m.fr, .string m.tq, .int .u32 m.ix, .int .u32 m.pe, .int .u64 m.ct, .int .u64 m.ba, .int .u64 m.ve, .string m.tx, .bool (m.ev), .int .u64 m.eh, .int .u64 m.el, .int .u16 m.ep, .int .u16 m.co, .string m.tt, .string m.da, .string m.sg]))] (.tuple #[.string (eO m), .int .i64 (mE m)]) (fun _ => by kernel_rfl) (fun w M => c_Encode m ht hm w M.laid) ?_
  intro u2 M
  refine pl_val (want_no rfl) (some 5) rfl (.tuple #[.string (eO m), .int .i64 (mE m)]) (fun _ => by kernel_rfl) ?_
  refine pl_val (want_no rfl) (some 8) rfl (.string (eO m)) (fun _ => by kernel_rfl) ?_
  refine pl_val (want_no rfl) (some 9) rfl (.int .i64 (mE m)) (fun _ => by kernel_rfl) ?_
  refine pl_val (want_no rfl) (some 3) rfl (.string (eO m)) (fun _ => by kernel_rfl) ?_
  refine pl_val (want_no rfl) (some 4) rfl (.int .i64 (mE m)) (fun _ => by kernel_rfl) ?_
  refine pl_nil ?_
  refine au_then ?_
  refine wp_seq ?_
  refine rg_lit ?_
  refine pl_val (want_no rfl) (some 10) rfl (.string (eO m)) (fun _ => by kernel_rfl) ?_
  refine pl_val (want_no rfl) (some 11) rfl (.int .i64 ((eO m).size : Int)) (fun _ => by kernel_rfl) ?_
  refine pl_val (want_no rfl) (some 2) rfl (.int .i64 ((eO m).size : Int)) (fun _ => by kernel_rfl) ?_
  refine pl_nil ?_
  refine au_then ?_
  refine wp_ret ?_
  exact bodyPost_ret (v := .int .i64 ((eO m).size : Int)) (results_tmp1 Try.results16 _ _ _ (by kernel_rfl)) (by kernel_rfl) ⟨rfl, below_grown M.old⟩


end Go.Proofs.Ytbechjlkmajcoaa
