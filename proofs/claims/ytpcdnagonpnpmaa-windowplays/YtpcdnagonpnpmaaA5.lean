/- Windows by what was marked; a known run; a window that is not there: WindowNil. -/
import Derived.Test.YtpcdnagonpnpmaaA4
namespace Go.Proofs.Ytpcdnagonpnpmaa
open Go.RowKit

section
variable {P : Program} {ops : Array Oper} {rest : List Oper} {o : Oper} {a : Act} {w : World} {c : Ctx} {L T : List Blk} {Q : Exit → Act → World → Prop} {α : Type}
/-- A call that changes two blocks, as x tells. -/
theorem pl_call2X (M : Mem c L w) (hw : Region.wanted o (yielded ops a.tmps) = true) (d : Option Tmp) (hd : o.dst = d) (f : FuncId) (args : Array Value) (v : Value) (i j g k : Nat) (Z Y : Obj) (Z' Y' : α → Obj) (R : α → Prop) (hi : L[i]? = some ⟨g, Z⟩) (hj : L[j]? = some ⟨k, Y⟩) (hrun : ∀ w, (execOp a.eval o).run P w = .ok (.enter f args) w)
    (hc : ∀ w, Mem c L w → Calls P f args w fun e w' => e = .returned v ∧ ∃ x, R x ∧ Grw w w' [g, k] ∧ w'.heap[g]? = some (Z' x) ∧ w'.heap[k]? = some (Y' x)) (h : ∀ x w', R x → Mem c ((L.set i ⟨g, Z' x⟩).set j ⟨k, Y' x⟩) w' → PL P ops Q rest (a.put d v) w') : PL P ops Q (o :: rest) a w :=
  pl_callq hw d hd f args hrun ((hc w M).mono fun _ w' ⟨he, x, hR, h1, h2, h3⟩ => ⟨v, he, h x w' hR (M.put2 i j ⟨g, Z⟩ ⟨k, Y⟩ hi hj (Z' x) (Y' x) h1 h2 h3)⟩)
/-- A call that turns the blocks T into others, as x tells. -/
theorem pl_callX (M : Mem c (L ++ T) w) (hw : Region.wanted o (yielded ops a.tmps) = true) (d : Option Tmp) (hd : o.dst = d) (f : FuncId) (args : Array Value) (v : α → Value) (T' : α → List Blk) (R : α → Prop) (hrun : ∀ w, (execOp a.eval o).run P w = .ok (.enter f args) w)
    (hc : ∀ w, Mem c (L ++ T) w → Calls P f args w fun e w' => ∃ x, e = .returned (v x) ∧ R x ∧ OkT w w' T (T' x)) (h : ∀ x w', R x → Mem c (L ++ T' x) w' → PL P ops Q rest (a.put d (v x)) w') : PL P ops Q (o :: rest) a w :=
  pl_callq hw d hd f args hrun ((hc w M).mono fun _ w' ⟨x, he, hR, hk⟩ => ⟨v x, he, h x w' hR (M.putT hk)⟩)
end
theorem a_New (s : Nat) (hs : 1 ≤ s) (hs4 : s ≤ 4096) (w : World) (hL : Laid w) : Calls Try.prog 7 #[.int .i64 (s : Int)] w fun r w' => ∃ x : Nat × Nat, r = .returned (.tuple #[.pointer (some ⟨x.1, 0, none⟩), .int .i64 0]) ∧ True ∧ OkT w w' [] [⟨x.1, .cells (av 3 (ls [.int .u64 (s : Int), .int .u64 0, .slice (some ⟨x.2, 0, none⟩) (nW s) (nW s)])) 44⟩, ⟨x.2, .cells (av (nW s) (w64 (fun _ => 0))) 23⟩] :=
  (c_New s hs hs4 w hL).mono fun _ _ ⟨g, k, he, hk⟩ => ⟨(g, k), he, trivial, hk⟩
theorem a_May (g k s h cap : Nat) (m : Nat → Int) (n : Nat) (l : List Nat) (v : Int) (hs : 1 ≤ s) (hc : nW s ≤ cap) (hh : h < 18446744073709551616) (hn : n < 18446744073709551616) (I : Inv s h m l) (hv : my s l n = v) (w : World) (hL : Laid w) (hg0 : w.heap[g]? = some (.cells (av 3 (ls [.int .u64 (s : Int), .int .u64 (h : Int), .slice (some ⟨k, 0, none⟩) (nW s) cap])) 44)) (hg1 : w.heap[k]? = some (.cells (av cap (w64 m)) 23)) (hne : g ≠ k) :
    Calls Try.prog 10 #[.pointer (some ⟨g, 0, none⟩), .int .u64 (n : Int)] w fun r w' => r = .returned (.int .i64 v) ∧ Below w.heap.size w w' := by
  rw [← hv, ← may_eq I hs n]
  exact c_May g k s h cap m n hs hc hh hn w hL hg0 hg1 hne
theorem a_Mark (g k s h cap : Nat) (m : Nat → Int) (n : Nat) (l : List Nat) (v : Int) (l' : List Nat) (hs : 1 ≤ s) (hc : nW s ≤ cap) (hh : h < 18446744073709551616) (hn : n < 18446744073709551616) (I : Inv s h m l) (hv : my s l n = v) (hl : mk s l n = l') (w : World) (hL : Laid w) (hg0 : w.heap[g]? = some (.cells (av 3 (ls [.int .u64 (s : Int), .int .u64 (h : Int), .slice (some ⟨k, 0, none⟩) (nW s) cap])) 44)) (hg1 : w.heap[k]? = some (.cells (av cap (w64 m)) 23)) (hne : g ≠ k) :
    Calls Try.prog 9 #[.pointer (some ⟨g, 0, none⟩), .int .u64 (n : Int)] w fun r w' => r = .returned (.int .i64 v) ∧ ∃ x : Nat × (Nat → Int), (Inv s x.1 x.2 l' ∧ x.1 < 18446744073709551616) ∧ Grw w w' [g, k] ∧ w'.heap[g]? = some (.cells (av 3 (ls [.int .u64 (s : Int), .int .u64 (x.1 : Int), .slice (some ⟨k, 0, none⟩) (nW s) cap])) 44) ∧ w'.heap[k]? = some (.cells (av cap (w64 x.2)) 23) := by
  rw [← hv, ← hl, ← may_eq I hs n]
  exact (c_Mark g k s h cap m n hs hc hh hn w hL hg0 hg1 hne).mono fun _ _ ⟨he, h1, h2, h3⟩ => ⟨he, (mkH s h m n, mkM s h m n), ⟨inv_mark I hs n, mkH_lt hh hn⟩, h1, h2, h3⟩
theorem a_Highest (g k s h cap : Nat) (m : Nat → Int) (l : List Nat) (a : Nat) (b : Bool) (hs : 1 ≤ s) (hc : nW s ≤ cap) (hh : h < 18446744073709551616) (I : Inv s h m l) (ha : mx l = a) (hb : decide (l ≠ []) = b) (w : World) (hL : Laid w) (hg0 : w.heap[g]? = some (.cells (av 3 (ls [.int .u64 (s : Int), .int .u64 (h : Int), .slice (some ⟨k, 0, none⟩) (nW s) cap])) 44)) (hg1 : w.heap[k]? = some (.cells (av cap (w64 m)) 23)) (hne : g ≠ k) :
    Calls Try.prog 13 #[.pointer (some ⟨g, 0, none⟩)] w fun r w' => r = .returned (.tuple #[.int .u64 (a : Int), .bool b]) ∧ Below w.heap.size w w' := by
  rw [← ha, ← hb, ← (hi_eq I hs).1, ← (hi_eq I hs).2]
  exact c_Highest g k s h cap m hs hc hh w hL hg0 hg1 hne
theorem a_Copy (g k s h cap : Nat) (m : Nat → Int) (hs : 1 ≤ s) (hs4 : s ≤ 4096) (hc : nW s ≤ cap) (w : World) (hL : Laid w) (hg0 : w.heap[g]? = some (.cells (av 3 (ls [.int .u64 (s : Int), .int .u64 (h : Int), .slice (some ⟨k, 0, none⟩) (nW s) cap])) 44)) (hg1 : w.heap[k]? = some (.cells (av cap (w64 m)) 23)) (hne : g ≠ k) :
    Calls Try.prog 8 #[.pointer (some ⟨g, 0, none⟩)] w fun r w' => ∃ x : Nat × Nat × Nat, r = .returned (.pointer (some ⟨x.1, 0, none⟩)) ∧ nW s ≤ x.2.2 ∧ OkT w w' [] [⟨x.1, .cells (av 3 (ls [.int .u64 (s : Int), .int .u64 (h : Int), .slice (some ⟨x.2.1, 0, none⟩) (nW s) x.2.2])) 44⟩, ⟨x.2.1, .cells (av x.2.2 (w64 (cpF (nW s) m))) 23⟩] :=
  (c_Copy g k s h cap m hs hs4 hc w hL hg0 hg1 hne).mono fun _ _ ⟨g1, k1, cap1, he, h1, hk⟩ => ⟨(g1, k1, cap1), he, h1, hk⟩
set_option maxRecDepth 100000 in
set_option maxHeartbeats 4000000 in
set_option linter.unusedSimpArgs false in
theorem c_alive  (w : World) (hL : Laid w)  :
    Calls Try.prog 6 #[] w fun r w' => r = .returned (.bool true) ∧ Below w.heap.size w w' := by
  go_enter Try.func6, Try.ntmps6
  have M := Mem.start hL
  refine wp_seq ?_
  refine rg_lit ?_
  refine pl_val (want_no rfl) (some 0) rfl (.bool false) (fun _ => by kernel_rfl) ?_
  refine pl_nil ?_
  refine au_then ?_
  refine wp_seq ?_
  refine rg_lit ?_
  refine pl_callX (L := []) (T := []) (by simpa only [List.append_nil] using M) (want_no rfl) (some 8) rfl 7 #[.int .i64 3] (fun x : Nat × Nat => .tuple #[.pointer (some ⟨x.1, 0, none⟩), .int .i64 0]) (fun x => [⟨x.1, .cells (av 3 (ls [.int .u64 (3 : Int), .int .u64 0, .slice (some ⟨x.2, 0, none⟩) (nW 3) (nW 3)])) 44⟩, ⟨x.2, .cells (av (nW 3) (w64 (fun _ => 0))) 23⟩]) (fun _ => True) (fun _ => by kernel_rfl) (fun w M => a_New 3 (by decide) (by decide) w M.laid) ?_
  rintro ⟨gw0, kw0⟩ u1 - M
  replace M : Mem ⟨w, []⟩ [⟨gw0, .cells (av 3 (ls [.int .u64 3, .int .u64 0, .slice (some ⟨kw0, 0, none⟩) (nW 3) (nW 3)])) 44⟩, ⟨kw0, .cells (av (nW 3) (w64 (fun _ => 0))) 23⟩] u1 := M
  refine pl_val (want_no rfl) (some 7) rfl (.tuple #[.pointer (some ⟨gw0, 0, none⟩), .int .i64 0]) (fun _ => by kernel_rfl) ?_
  refine pl_val (want_no rfl) (some 9) rfl (.pointer (some ⟨gw0, 0, none⟩)) (fun _ => by kernel_rfl) ?_
  refine pl_val (want_no rfl) (some 10) rfl (.int .i64 0) (fun _ => by kernel_rfl) ?_
  refine pl_val (want_no rfl) (some 1) rfl (.pointer (some ⟨gw0, 0, none⟩)) (fun _ => by kernel_rfl) ?_
  refine pl_val (want_no rfl) (some 2) rfl (.int .i64 0) (fun _ => by kernel_rfl) ?_
  refine pl_nil ?_
  refine au_then ?_
  refine wp_seq ?_
  refine wp_seq ?_
  refine rg_lit ?_
  refine pl_val (want_no rfl) (some 11) rfl (.int .i64 0) (fun _ => by kernel_rfl) ?_
  refine pl_val (want_no rfl) (some 12) rfl (.bool false) (fun _ => by kernel_rfl) ?_
  refine pl_val (want_no rfl) (some 13) rfl (.bool false) (fun _ => by kernel_rfl) ?_
  refine pl_val (want_on 2 false rfl 13 rfl (by kernel_rfl)) (some 14) rfl (.pointer (some ⟨gw0, 0, none⟩)) (fun _ => by kernel_rfl) ?_
  refine pl_val (want_on 2 false rfl 13 rfl (by kernel_rfl)) (some 15) rfl (.bool false) (fun _ => by kernel_rfl) ?_
  refine pl_val (want_no rfl) (some 16) rfl (.bool false) (fun _ => by kernel_rfl) ?_
  refine pl_val (want_no rfl) (some 17) rfl (.bool false) (fun _ => by kernel_rfl) ?_
  refine pl_val (want_on 6 false rfl 17 rfl (by kernel_rfl)) (some 18) rfl (.pointer (some ⟨gw0, 0, none⟩)) (fun _ => by kernel_rfl) ?_
  refine pl_call2X M (want_on 6 false rfl 17 rfl (by kernel_rfl)) (some 19) rfl 9 #[.pointer (some ⟨gw0, 0, none⟩), .int .u64 (5 : Int)] (.int .i64 0) 0 1 gw0 kw0 _ _ (fun x : Nat × (Nat → Int) => .cells (av 3 (ls [.int .u64 (3 : Int), .int .u64 (x.1 : Int), .slice (some ⟨kw0, 0, none⟩) (nW 3) (nW 3)])) 44) (fun x => .cells (av (nW 3) (w64 x.2)) 23) (fun x => Inv 3 x.1 x.2 [5] ∧ x.1 < 18446744073709551616) rfl rfl (fun _ => by kernel_rfl) (fun w M => a_Mark gw0 kw0 3 0 (nW 3) (fun _ => 0) 5 [] 0 [5] (by decide) (Nat.le_refl _) (by decide) (by decide) (inv_new 3) (by decide) (by decide) w M.laid (M.get 0 rfl) (M.get 1 rfl) (nodup_at M.nodup (i := 0) (j := 1) rfl rfl (by decide))) ?_
  rintro ⟨h1, m1⟩ u2 ⟨I1, hh1⟩ M
  replace M : Mem ⟨w, []⟩ [⟨gw0, .cells (av 3 (ls [.int .u64 3, .int .u64 (h1 : Int), .slice (some ⟨kw0, 0, none⟩) (nW 3) (nW 3)])) 44⟩, ⟨kw0, .cells (av (nW 3) (w64 m1)) 23⟩] u2 := M
  refine pl_val (want_on 6 false rfl 17 rfl (by kernel_rfl)) (some 20) rfl (.bool false) (fun _ => by kernel_rfl) ?_
  refine pl_val (want_no rfl) (some 21) rfl (.bool false) (fun _ => by kernel_rfl) ?_
  refine pl_val (want_no rfl) (some 22) rfl (.bool false) (fun _ => by kernel_rfl) ?_
  refine pl_val (want_on 11 false rfl 22 rfl (by kernel_rfl)) (some 23) rfl (.pointer (some ⟨gw0, 0, none⟩)) (fun _ => by kernel_rfl) ?_
  refine pl_call2X M (want_on 11 false rfl 22 rfl (by kernel_rfl)) (some 24) rfl 9 #[.pointer (some ⟨gw0, 0, none⟩), .int .u64 (5 : Int)] (.int .i64 9) 0 1 gw0 kw0 _ _ (fun x : Nat × (Nat → Int) => .cells (av 3 (ls [.int .u64 (3 : Int), .int .u64 (x.1 : Int), .slice (some ⟨kw0, 0, none⟩) (nW 3) (nW 3)])) 44) (fun x => .cells (av (nW 3) (w64 x.2)) 23) (fun x => Inv 3 x.1 x.2 [5] ∧ x.1 < 18446744073709551616) rfl rfl (fun _ => by kernel_rfl) (fun w M => a_Mark gw0 kw0 3 h1 (nW 3) m1 5 [5] 9 [5] (by decide) (Nat.le_refl _) hh1 (by decide) I1 (by decide) (by decide) w M.laid (M.get 0 rfl) (M.get 1 rfl) (nodup_at M.nodup (i := 0) (j := 1) rfl rfl (by decide))) ?_
  rintro ⟨h2, m2⟩ u3 ⟨I2, hh2⟩ M
  replace M : Mem ⟨w, []⟩ [⟨gw0, .cells (av 3 (ls [.int .u64 3, .int .u64 (h2 : Int), .slice (some ⟨kw0, 0, none⟩) (nW 3) (nW 3)])) 44⟩, ⟨kw0, .cells (av (nW 3) (w64 m2)) 23⟩] u3 := M
  refine pl_val (want_on 11 false rfl 22 rfl (by kernel_rfl)) (some 25) rfl (.bool false) (fun _ => by kernel_rfl) ?_
  refine pl_val (want_no rfl) (some 26) rfl (.bool false) (fun _ => by kernel_rfl) ?_
  refine pl_val (want_no rfl) (some 27) rfl (.bool false) (fun _ => by kernel_rfl) ?_
  refine pl_val (want_on 16 false rfl 27 rfl (by kernel_rfl)) (some 28) rfl (.pointer (some ⟨gw0, 0, none⟩)) (fun _ => by kernel_rfl) ?_
  refine pl_call2X M (want_on 16 false rfl 27 rfl (by kernel_rfl)) (some 29) rfl 9 #[.pointer (some ⟨gw0, 0, none⟩), .int .u64 (3 : Int)] (.int .i64 0) 0 1 gw0 kw0 _ _ (fun x : Nat × (Nat → Int) => .cells (av 3 (ls [.int .u64 (3 : Int), .int .u64 (x.1 : Int), .slice (some ⟨kw0, 0, none⟩) (nW 3) (nW 3)])) 44) (fun x => .cells (av (nW 3) (w64 x.2)) 23) (fun x => Inv 3 x.1 x.2 [5, 3] ∧ x.1 < 18446744073709551616) rfl rfl (fun _ => by kernel_rfl) (fun w M => a_Mark gw0 kw0 3 h2 (nW 3) m2 3 [5] 0 [5, 3] (by decide) (Nat.le_refl _) hh2 (by decide) I2 (by decide) (by decide) w M.laid (M.get 0 rfl) (M.get 1 rfl) (nodup_at M.nodup (i := 0) (j := 1) rfl rfl (by decide))) ?_
  rintro ⟨h3, m3⟩ u4 ⟨I3, hh3⟩ M
  replace M : Mem ⟨w, []⟩ [⟨gw0, .cells (av 3 (ls [.int .u64 3, .int .u64 (h3 : Int), .slice (some ⟨kw0, 0, none⟩) (nW 3) (nW 3)])) 44⟩, ⟨kw0, .cells (av (nW 3) (w64 m3)) 23⟩] u4 := M
  refine pl_val (want_on 16 false rfl 27 rfl (by kernel_rfl)) (some 30) rfl (.bool false) (fun _ => by kernel_rfl) ?_
  refine pl_val (want_no rfl) (some 31) rfl (.bool false) (fun _ => by kernel_rfl) ?_
  refine pl_val (want_no rfl) (some 32) rfl (.bool false) (fun _ => by kernel_rfl) ?_
  refine pl_val (want_on 21 false rfl 32 rfl (by kernel_rfl)) (some 33) rfl (.pointer (some ⟨gw0, 0, none⟩)) (fun _ => by kernel_rfl) ?_
  refine pl_call2X M (want_on 21 false rfl 32 rfl (by kernel_rfl)) (some 34) rfl 9 #[.pointer (some ⟨gw0, 0, none⟩), .int .u64 (2 : Int)] (.int .i64 170) 0 1 gw0 kw0 _ _ (fun x : Nat × (Nat → Int) => .cells (av 3 (ls [.int .u64 (3 : Int), .int .u64 (x.1 : Int), .slice (some ⟨kw0, 0, none⟩) (nW 3) (nW 3)])) 44) (fun x => .cells (av (nW 3) (w64 x.2)) 23) (fun x => Inv 3 x.1 x.2 [5, 3] ∧ x.1 < 18446744073709551616) rfl rfl (fun _ => by kernel_rfl) (fun w M => a_Mark gw0 kw0 3 h3 (nW 3) m3 2 [5, 3] 170 [5, 3] (by decide) (Nat.le_refl _) hh3 (by decide) I3 (by decide) (by decide) w M.laid (M.get 0 rfl) (M.get 1 rfl) (nodup_at M.nodup (i := 0) (j := 1) rfl rfl (by decide))) ?_
  rintro ⟨h4, m4⟩ u5 ⟨I4, hh4⟩ M
  replace M : Mem ⟨w, []⟩ [⟨gw0, .cells (av 3 (ls [.int .u64 3, .int .u64 (h4 : Int), .slice (some ⟨kw0, 0, none⟩) (nW 3) (nW 3)])) 44⟩, ⟨kw0, .cells (av (nW 3) (w64 m4)) 23⟩] u5 := M
  refine pl_val (want_on 21 false rfl 32 rfl (by kernel_rfl)) (some 35) rfl (.bool false) (fun _ => by kernel_rfl) ?_
  refine pl_val (want_no rfl) (some 36) rfl (.bool false) (fun _ => by kernel_rfl) ?_
  refine pl_val (want_no rfl) (some 37) rfl (.bool false) (fun _ => by kernel_rfl) ?_
  refine pl_val (want_on 26 false rfl 37 rfl (by kernel_rfl)) (some 38) rfl (.pointer (some ⟨gw0, 0, none⟩)) (fun _ => by kernel_rfl) ?_
  refine pl_call2X M (want_on 26 false rfl 37 rfl (by kernel_rfl)) (some 39) rfl 9 #[.pointer (some ⟨gw0, 0, none⟩), .int .u64 (9 : Int)] (.int .i64 0) 0 1 gw0 kw0 _ _ (fun x : Nat × (Nat → Int) => .cells (av 3 (ls [.int .u64 (3 : Int), .int .u64 (x.1 : Int), .slice (some ⟨kw0, 0, none⟩) (nW 3) (nW 3)])) 44) (fun x => .cells (av (nW 3) (w64 x.2)) 23) (fun x => Inv 3 x.1 x.2 [5, 3, 9] ∧ x.1 < 18446744073709551616) rfl rfl (fun _ => by kernel_rfl) (fun w M => a_Mark gw0 kw0 3 h4 (nW 3) m4 9 [5, 3] 0 [5, 3, 9] (by decide) (Nat.le_refl _) hh4 (by decide) I4 (by decide) (by decide) w M.laid (M.get 0 rfl) (M.get 1 rfl) (nodup_at M.nodup (i := 0) (j := 1) rfl rfl (by decide))) ?_
  rintro ⟨h5, m5⟩ u6 ⟨I5, hh5⟩ M
  replace M : Mem ⟨w, []⟩ [⟨gw0, .cells (av 3 (ls [.int .u64 3, .int .u64 (h5 : Int), .slice (some ⟨kw0, 0, none⟩) (nW 3) (nW 3)])) 44⟩, ⟨kw0, .cells (av (nW 3) (w64 m5)) 23⟩] u6 := M
  refine pl_val (want_on 26 false rfl 37 rfl (by kernel_rfl)) (some 40) rfl (.bool false) (fun _ => by kernel_rfl) ?_
  refine pl_val (want_no rfl) (some 41) rfl (.bool false) (fun _ => by kernel_rfl) ?_
  refine pl_val (want_no rfl) (some 42) rfl (.bool false) (fun _ => by kernel_rfl) ?_
  refine pl_val (want_on 31 false rfl 42 rfl (by kernel_rfl)) (some 43) rfl (.pointer (some ⟨gw0, 0, none⟩)) (fun _ => by kernel_rfl) ?_
  refine pl_call M (want_on 31 false rfl 42 rfl (by kernel_rfl)) (some 44) rfl 10 #[.pointer (some ⟨gw0, 0, none⟩), .int .u64 7] (.int .i64 0) (fun _ => by kernel_rfl) (fun w M => a_May gw0 kw0 3 h5 (nW 3) m5 7 [5, 3, 9] 0 (by decide) (Nat.le_refl _) hh5 (by decide) I5 (by decide) w M.laid (M.get 0 rfl) (M.get 1 rfl) (nodup_at M.nodup (i := 0) (j := 1) rfl rfl (by decide))) ?_
  intro u7 M
  refine pl_val (want_on 31 false rfl 42 rfl (by kernel_rfl)) (some 45) rfl (.bool false) (fun _ => by kernel_rfl) ?_
  refine pl_val (want_no rfl) (some 46) rfl (.bool false) (fun _ => by kernel_rfl) ?_
  refine pl_val (want_no rfl) (some 47) rfl (.bool false) (fun _ => by kernel_rfl) ?_
  refine pl_val (want_on 36 false rfl 47 rfl (by kernel_rfl)) (some 48) rfl (.pointer (some ⟨gw0, 0, none⟩)) (fun _ => by kernel_rfl) ?_
  refine pl_call M (want_on 36 false rfl 47 rfl (by kernel_rfl)) (some 49) rfl 10 #[.pointer (some ⟨gw0, 0, none⟩), .int .u64 6] (.int .i64 170) (fun _ => by kernel_rfl) (fun w M => a_May gw0 kw0 3 h5 (nW 3) m5 6 [5, 3, 9] 170 (by decide) (Nat.le_refl _) hh5 (by decide) I5 (by decide) w M.laid (M.get 0 rfl) (M.get 1 rfl) (nodup_at M.nodup (i := 0) (j := 1) rfl rfl (by decide))) ?_
  intro u8 M
  refine pl_val (want_on 36 false rfl 47 rfl (by kernel_rfl)) (some 50) rfl (.bool false) (fun _ => by kernel_rfl) ?_
  refine pl_val (want_no rfl) (some 51) rfl (.bool false) (fun _ => by kernel_rfl) ?_
  refine pl_nil ?_
  refine au_then ?_
  refine wp_cond_false (by kernel_rfl) ?_
  refine wp_skip ?_
  refine au_then ?_
  refine wp_seq ?_
  refine rg_lit ?_
  refine pl_val (want_no rfl) (some 53) rfl (.pointer (some ⟨gw0, 0, none⟩)) (fun _ => by kernel_rfl) ?_
  refine pl_call M (want_no rfl) (some 54) rfl 13 #[.pointer (some ⟨gw0, 0, none⟩)] (.tuple #[.int .u64 9, .bool true]) (fun _ => by kernel_rfl) (fun w M => a_Highest gw0 kw0 3 h5 (nW 3) m5 [5, 3, 9] 9 true (by decide) (Nat.le_refl _) hh5 I5 (by decide) (by decide) w M.laid (M.get 0 rfl) (M.get 1 rfl) (nodup_at M.nodup (i := 0) (j := 1) rfl rfl (by decide))) ?_
  intro u9 M
  refine pl_val (want_no rfl) (some 52) rfl (.tuple #[.int .u64 9, .bool true]) (fun _ => by kernel_rfl) ?_
  refine pl_val (want_no rfl) (some 55) rfl (.int .u64 9) (fun _ => by kernel_rfl) ?_
  refine pl_val (want_no rfl) (some 56) rfl (.bool true) (fun _ => by kernel_rfl) ?_
  refine pl_val (want_no rfl) (some 3) rfl (.int .u64 9) (fun _ => by kernel_rfl) ?_
  refine pl_val (want_no rfl) (some 4) rfl (.bool true) (fun _ => by kernel_rfl) ?_
  refine pl_nil ?_
  refine au_then ?_
  refine wp_seq ?_
  refine rg_lit ?_
  refine pl_call M (want_no rfl) (some 58) rfl 7 #[.int .i64 0] (.tuple #[.pointer none, .int .i64 2]) (fun _ => by kernel_rfl) (fun w M => c_NewE 0 (by decide) w M.laid) ?_
  intro u10 M
  refine pl_val (want_no rfl) (some 57) rfl (.tuple #[.pointer none, .int .i64 2]) (fun _ => by kernel_rfl) ?_
  refine pl_val (want_no rfl) (some 59) rfl (.pointer none) (fun _ => by kernel_rfl) ?_
  refine pl_val (want_no rfl) (some 60) rfl (.int .i64 2) (fun _ => by kernel_rfl) ?_
  refine pl_val (want_no rfl) (some 5) rfl (.pointer none) (fun _ => by kernel_rfl) ?_
  refine pl_val (want_no rfl) (some 6) rfl (.int .i64 2) (fun _ => by kernel_rfl) ?_
  refine pl_nil ?_
  refine au_then ?_
  refine wp_seq ?_
  refine rg_lit ?_
  refine pl_val (want_no rfl) (some 61) rfl (.int .u64 9) (fun _ => by kernel_rfl) ?_
  refine pl_val (want_no rfl) (some 62) rfl (.bool true) (fun _ => by kernel_rfl) ?_
  refine pl_val (want_no rfl) (some 63) rfl (.bool true) (fun _ => by kernel_rfl) ?_
  refine pl_val (want_on 2 true rfl 63 rfl (by kernel_rfl)) (some 64) rfl (.bool true) (fun _ => by kernel_rfl) ?_
  refine pl_val (want_no rfl) (some 65) rfl (.bool true) (fun _ => by kernel_rfl) ?_
  refine pl_val (want_no rfl) (some 66) rfl (.bool true) (fun _ => by kernel_rfl) ?_
  refine pl_val (want_on 5 true rfl 66 rfl (by kernel_rfl)) (some 67) rfl (.int .i64 2) (fun _ => by kernel_rfl) ?_
  refine pl_val (want_on 5 true rfl 66 rfl (by kernel_rfl)) (some 68) rfl (.bool true) (fun _ => by kernel_rfl) ?_
  refine pl_val (want_no rfl) (some 69) rfl (.bool true) (fun _ => by kernel_rfl) ?_
  refine pl_val (want_no rfl) (some 0) rfl (.bool true) (fun _ => by kernel_rfl) ?_
  refine pl_nil ?_
  refine au_then ?_
  refine wp_ret ?_
  exact bodyPost_ret (v := .bool true) (results_tmp1 Try.results6 _ _ _ (by kernel_rfl)) (by kernel_rfl) ⟨rfl, below_grown M.old⟩

set_option maxRecDepth 100000 in
set_option maxHeartbeats 4000000 in
set_option linter.unusedSimpArgs false in
theorem c_nil (n : Nat) (w : World) (hL : Laid w)  :
    Calls Try.prog 5 #[.int .u64 (n : Int)] w fun r w' => r = .returned (.bool true) ∧ Below w.heap.size w w' := by
  go_enter Try.func5, Try.ntmps5
  have M := Mem.start hL
  refine wp_seq ?_
  refine rg_lit ?_
  refine pl_val (want_no rfl) (some 2) rfl (.bool false) (fun _ => by kernel_rfl) ?_
  refine pl_nil ?_
  refine au_then ?_
  refine wp_seq ?_
  refine rg_lit ?_
  refine pl_val (want_no rfl) (some 3) rfl (.pointer none) (fun _ => by kernel_rfl) ?_
  refine pl_nil ?_
  refine au_then ?_
  refine wp_seq ?_
  refine rg_lit ?_
  refine pl_val (want_no rfl) (some 7) rfl (.pointer none) (fun _ => by kernel_rfl) ?_
  refine pl_call M (want_no rfl) (some 8) rfl 13 #[.pointer none] (.tuple #[.int .u64 0, .bool false]) (fun _ => by kernel_rfl) (fun w M => n_Highest w M.laid) ?_
  intro u1 M
  refine pl_val (want_no rfl) (some 6) rfl (.tuple #[.int .u64 0, .bool false]) (fun _ => by kernel_rfl) ?_
  refine pl_val (want_no rfl) (some 9) rfl (.int .u64 0) (fun _ => by kernel_rfl) ?_
  refine pl_val (want_no rfl) (some 10) rfl (.bool false) (fun _ => by kernel_rfl) ?_
  refine pl_val (want_no rfl) (some 4) rfl (.int .u64 0) (fun _ => by kernel_rfl) ?_
  refine pl_val (want_no rfl) (some 5) rfl (.bool false) (fun _ => by kernel_rfl) ?_
  refine pl_nil ?_
  refine au_then ?_
  refine wp_seq ?_
  refine rg_lit ?_
  refine pl_val (want_no rfl) (some 11) rfl (.pointer none) (fun _ => by kernel_rfl) ?_
  refine pl_val (want_no rfl) (some 12) rfl (.int .u64 (n : Int)) (fun _ => by kernel_rfl) ?_
  refine pl_call M (want_no rfl) (some 13) rfl 10 #[.pointer none, .int .u64 (n : Int)] (.int .i64 1) (fun _ => by kernel_rfl) (fun w M => n_May n w M.laid) ?_
  intro u2 M
  refine pl_val (want_no rfl) (some 14) rfl (.bool true) (fun _ => by kernel_rfl) ?_
  refine pl_val (want_no rfl) (some 15) rfl (.bool true) (fun _ => by kernel_rfl) ?_
  refine pl_val (want_on 4 true rfl 15 rfl (by kernel_rfl)) (some 16) rfl (.pointer none) (fun _ => by kernel_rfl) ?_
  refine pl_val (want_on 4 true rfl 15 rfl (by kernel_rfl)) (some 17) rfl (.int .u64 (n : Int)) (fun _ => by kernel_rfl) ?_
  refine pl_call M (want_on 4 true rfl 15 rfl (by kernel_rfl)) (some 18) rfl 9 #[.pointer none, .int .u64 (n : Int)] (.int .i64 1) (fun _ => by kernel_rfl) (fun w M => n_Mark n w M.laid) ?_
  intro u3 M
  refine pl_val (want_on 4 true rfl 15 rfl (by kernel_rfl)) (some 19) rfl (.bool true) (fun _ => by kernel_rfl) ?_
  refine pl_val (want_no rfl) (some 20) rfl (.bool true) (fun _ => by kernel_rfl) ?_
  refine pl_val (want_no rfl) (some 21) rfl (.bool true) (fun _ => by kernel_rfl) ?_
  refine pl_val (want_on 10 true rfl 21 rfl (by kernel_rfl)) (some 22) rfl (.int .u64 0) (fun _ => by kernel_rfl) ?_
  refine pl_val (want_on 10 true rfl 21 rfl (by kernel_rfl)) (some 23) rfl (.bool true) (fun _ => by kernel_rfl) ?_
  refine pl_val (want_no rfl) (some 24) rfl (.bool true) (fun _ => by kernel_rfl) ?_
  refine pl_val (want_no rfl) (some 25) rfl (.bool true) (fun _ => by kernel_rfl) ?_
  refine pl_val (want_on 14 true rfl 25 rfl (by kernel_rfl)) (some 26) rfl (.bool false) (fun _ => by kernel_rfl) ?_
  refine pl_val (want_on 14 true rfl 25 rfl (by kernel_rfl)) (some 27) rfl (.bool true) (fun _ => by kernel_rfl) ?_
  refine pl_val (want_no rfl) (some 28) rfl (.bool true) (fun _ => by kernel_rfl) ?_
  refine pl_val (want_no rfl) (some 29) rfl (.bool true) (fun _ => by kernel_rfl) ?_
  refine pl_val (want_on 18 true rfl 29 rfl (by kernel_rfl)) (some 30) rfl (.pointer none) (fun _ => by kernel_rfl) ?_
  refine pl_call M (want_on 18 true rfl 29 rfl (by kernel_rfl)) (some 31) rfl 8 #[.pointer none] (.pointer none) (fun _ => by kernel_rfl) (fun w M => n_Copy w M.laid) ?_
  intro u4 M
  refine pl_val (want_on 18 true rfl 29 rfl (by kernel_rfl)) (some 32) rfl (.bool true) (fun _ => by kernel_rfl) ?_
  refine pl_val (want_no rfl) (some 33) rfl (.bool true) (fun _ => by kernel_rfl) ?_
  refine pl_val (want_no rfl) (some 34) rfl (.bool true) (fun _ => by kernel_rfl) ?_
  refine pl_call M (want_on 23 true rfl 34 rfl (by kernel_rfl)) (some 35) rfl 6 #[] (.bool true) (fun _ => by kernel_rfl) (fun w M => c_alive w M.laid) ?_
  intro u5 M
  refine pl_val (want_no rfl) (some 36) rfl (.bool true) (fun _ => by kernel_rfl) ?_
  refine pl_val (want_no rfl) (some 2) rfl (.bool true) (fun _ => by kernel_rfl) ?_
  refine pl_nil ?_
  refine au_then ?_
  refine wp_ret ?_
  exact bodyPost_ret (v := .bool true) (results_tmp1 Try.results5 _ _ _ (by kernel_rfl)) (by kernel_rfl) ⟨rfl, below_grown M.old⟩


end Go.Proofs.Ytpcdnagonpnpmaa
