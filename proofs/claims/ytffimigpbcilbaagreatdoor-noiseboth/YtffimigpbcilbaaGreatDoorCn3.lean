/- Part 3 of the walks and facts. -/
import Derived.Test.YtffimigpbcilbaaGreatDoorCnDef
import Derived.Test.YtffimigpbcilbaaGreatDoorCn2
set_option maxHeartbeats 16000000
set_option maxRecDepth 100000
namespace Go.Proofs.YtffimigpbcilbaaGreatDoor
open Go.RowKit
def findRange : Code → Option (Code × Code)
 | .seq a b => (findRange a).orElse fun _ => findRange b
 | .block _ c => findRange c
 | .rangeFunc _ _ s b => some (s, b)
 | _ => none
theorem code_is {O : Option (Code × Code)} {c0 d0 sg bd : Code} (hO : O = some (c0, d0)) (hc : O = some (sg, bd)) {F : Fence} {n : Nat} {P : Program} {Q : Exit → Act → World → Prop} {a : Act} {w : World} (h : d0.wpIn F n P Q a w) : bd.wpIn F n P Q a w := by
 rw [hO] at hc
 cases hc
 exact h
theorem code_is1 {O : Option (Code × Code)} {c0 d0 sg bd : Code} (hO : O = some (c0, d0)) (hc : O = some (sg, bd)) {F : Fence} {n : Nat} {P : Program} {Q : Exit → Act → World → Prop} {a : Act} {w : World} (h : c0.wpIn F n P Q a w) : sg.wpIn F n P Q a w := by
 rw [hO] at hc
 cases hc
 exact h
theorem au_block_out {id j : Nat} {Q : Exit → Act → World → Prop} {a : Act} {w : World} (h : j ≠ id) (hq : Q (.exit j) a w) : Exit.inBlock id Q (.exit j) a w := by
 show if j = id then Q .normal a w else Q (.exit j) a w
 rw [if_neg h]
 exact hq
def sw (f : NI) : Nat → (Nat → Int)
 | 0 => f
 | i + 1 => upd (sw f i) 12 (va (sw f i 12) 1)
def ob (f : NI) (s : Yb) (i : Nat) : Int := xb (bt s i) (bl (sw f (i / 64)) (i % 64))
def ot (f : NI) (s : Yb) : Nat → List UInt8
 | 0 => []
 | i + 1 => ot f s i ++ [UInt8.ofNat (ob f s i).toNat]
theorem ot_length (f : NI) (s : Yb) : ∀ n, (ot f s n).length = n
 | 0 => rfl
 | n + 1 => by
  unfold ot
  rw [List.length_append, ot_length f s n]
  rfl
theorem ob_nn (f : NI) (s : Yb) (i : Nat) : 0 ≤ ob f s i ∧ ob f s i < 256 := xb_nn _ _
theorem ob_at (f : NI) (s : Yb) (i j : Nat) (hj : j < 64) : xb (bt s (64 * i + j)) (bl (sw f i) j) = ob f s (64 * i + j) := by
 unfold ob
 rw [show (64 * i + j) / 64 = i by omega, show (64 * i + j) % 64 = j by omega]
theorem ext_size (s : Yb) (p : Nat) : (s.extract p s.size).size = s.size - p := by
 rw [ByteArray.size_extract]
 omega
theorem bt_ext (s : Yb) (p j : Nat) : bt (s.extract p s.size) j = bt s (p + j) := by
 unfold bt
 rw [ByteArray.data_extract, Array.getElem?_extract]
 by_cases h : j < s.data.size - p
 ·rw [if_pos (by show j < min s.data.size s.data.size - p; omega)]
 ·rw [if_neg (by show ¬ j < min s.data.size s.data.size - p; omega), Array.getElem?_eq_none (by omega)]
theorem min_if (x y : Nat) : (if (y : Int) < (x : Int) then (y : Int) else (x : Int)) = ((min x y : Nat) : Int) := by
 by_cases h : y < x
 ·rw [if_pos (by omega), Nat.min_eq_right (by omega)]
 ·rw [if_neg (by omega), Nat.min_eq_left (by omega)]
theorem r_body (sg bd : Code) (hb : Tryz.f100.body.bind findRange = some (sg, bd)) (s : Yb) (f : NI) (i : Nat) (hi : 64 * i ≤ s.size) (hz : s.size ≤ 200000) (k gs g7 lp : Nat) (L0 : List Blk) (v : NV) (w u : World) (hL : Laid w) (R : Exit → Act → World → Prop) (hO : ∀ a w, ¬ R .outgrown a w) (hP : ∀ c a w, ¬ R (.panic c) a w)
  (hS : ST w k (ot f s (64 * i)) (⟨gs, .cells (av 1 (fun _ => .string s)) 9⟩ :: ⟨g7, .cells (av 64 (w8 (bl (sw f i)))) 159⟩ :: L0) u)
  (hgo : ∀ a u', 64 < s.size - 64 * i → ST w k (ot f s (64 * i + 64)) (⟨gs, .cells (av 1 (fun _ => .string s)) 9⟩ :: ⟨g7, .cells (av 64 (w8 (bl (sw f i)))) 159⟩ :: L0) u' → R .normal a u')
  (hend : ∀ a u', s.size - 64 * i ≤ 64 → ST w k (ot f s s.size) (⟨gs, .cells (av 1 (fun _ => .string s)) 9⟩ :: ⟨g7, .cells (av 64 (w8 (bl (sw f i)))) 159⟩ :: L0) u' → R (.exit 0) a u') :
  bd.wpIn (FW (some lp)) 0 Tryz.prog R (fm ([v 0, v 1, .pointer (some ⟨gs, 0, none⟩), v 3, v 4, .pointer (some ⟨k, 0, none⟩), .int .i64 ((64 * i : Nat) : Int), .pointer (some ⟨g7, 0, none⟩)] ++ vr v 8 31)) u := by
 refine code_is (O := Tryz.f100.body.bind findRange) rfl hb ?_
 have M := hS.mem hL
 refine wpIn_block <| wpIn_seq <| rr_lit (by kernel_rfl) (fun _ _ h => hO _ _ h) <| ZE M 17 0 0 <| rV 1 <| pH 19 (.string (s.extract (64 * i) s.size)) (run_strl 9 Tryz.underlying9 _ _ rfl s (by kernel_rfl) .i64 (64 * i) (by kernel_rfl) hi _ rfl) <| rV 1 <| nT <| wpIn_seq <| wpIn_seq <| rr_lit (by kernel_rfl) (fun _ _ h => hO _ _ h) <| rV 1 <| zJ 21 (.int .i64 ((s.size - 64 * i : Nat) : Int)) (.int .i64 ((s.extract (64 * i) s.size).size : Int)) (by rw [ext_size]) <| zJ 22 (.int .i64 ((min (s.size - 64 * i) 64 : Nat) : Int)) (.int .i64 (if (64 : Int) < ((s.size - 64 * i : Nat) : Int) then (64 : Int) else ((s.size - 64 * i : Nat) : Int))) (by rw [show (if (64 : Int) < ((s.size - 64 * i : Nat) : Int) then (64 : Int) else ((s.size - 64 * i : Nat) : Int)) = ((min (s.size - 64 * i) 64 : Nat) : Int) from min_if (s.size - 64 * i) 64]) <| rV 1 <| nT ?_
 refine wpIn_block ?_
 have hS1 := hS.next M hS.nr
 obtain ⟨N, hN⟩ : ∃ N, min (s.size - 64 * i) 64 = N := ⟨_, rfl⟩
 have hN2 : N ≤ 64 ∧ N ≤ s.size - 64 * i := by rw [← hN]; exact ⟨Nat.min_le_right _ _, Nat.min_le_left _ _⟩
 rw [hN]
 refine rr_loop (fun j a u => ∃ v1 : NV, a = (fm ([v 0, v 1, .pointer (some ⟨gs, 0, none⟩), v 3, v 4, .pointer (some ⟨k, 0, none⟩), .int .i64 ((64 * i : Nat) : Int), .pointer (some ⟨g7, 0, none⟩), .string (s.extract (64 * i) s.size), v1 9] ++ vr v 10 7 ++ [.string s, .int .i64 ((64 * i : Nat) : Int), .string (s.extract (64 * i) s.size), .string (s.extract (64 * i) s.size), .int .i64 ((s.size - 64 * i : Nat) : Int), .int .i64 ((N : Nat) : Int), .int .i64 (j : Int)] ++ vr v1 24 11 ++ vr v 35 4)) ∧ ST w k (ot f s (64 * i + j)) (⟨gs, .cells (av 1 (fun _ => .string s)) 9⟩ :: ⟨g7, .cells (av 64 (w8 (bl (sw f i)))) 159⟩ :: L0) u) N ⟨fun k_ => ([v 9, undef, undef, undef, undef, undef, undef, undef, undef, undef, undef, undef, undef, undef, undef, v 24, v 25, v 26, v 27, v 28, v 29, v 30, v 31, v 32, v 33, v 34] : List Value).getD (k_ - 9) undef, by kernel_rfl, hS1⟩ ?_ ?_
 ·intro j a u0 hj hI
  clear M hS1 hS
  obtain ⟨v1, rfl, hS⟩ := hI
  have M := hS.mem hL
  refine wpIn_seq <| rr_lit (by kernel_rfl) (fun _ _ h => hO _ _ h) <| ZT 24 ((j : Int) < (N : Int)) <| nT <| wpIn_seq <| wpIn_cond_true (by kernel_rfl) <| wpIn_skip <| au_then <| wpIn_seq <| wpIn_block <| wpIn_seq <| rr_lit (by kernel_rfl) (fun _ _ h => hO _ _ h) <| rV 2 <| nT <| rr_held (by kernel_rfl) (fun _ _ h => hO _ _ h) M (⟨gs, .cells (av 1 (fun _ => .string s)) 9⟩ :: ⟨g7, .cells (av 64 (w8 (bl (sw f i)))) 159⟩ :: L0) 7 rfl (by kernel_rfl) (by kernel_rfl) (fun _ _ _ _ _ h => (hP _ _ _ h).elim) fun u1 M => qV M 0 26 (.string (s.extract (64 * i) s.size)) ?_
  refine qV M 1 27 (.int .i64 (j : Int)) <| qH M 2 28 (.int .u8 (bt s (64 * i + j))) (fun w _ => (fun w => Eq.trans (run_ixS 9 Tryz.underlying9 _ _ rfl (s.extract (64 * i) s.size) (by kernel_rfl) .i64 j (by kernel_rfl) (by rw [ext_size]; omega) w) (by rw [bt_ext])) w) <| qV M 3 29 (.int .i64 (j : Int)) <| qH M 4 30 (.pointer (some ⟨g7, j, none⟩)) (fun w _ => (run_ix1 159 64 5 Tryz.underlying159 inz5 _ _ rfl g7 (by kernel_rfl) .i64 (j) (by kernel_rfl) (by omega)) w) <| qE M 5 31 1 j <| qH M 6 32 (.int .u8 (ob f s (64 * i + j))) (fun w _ => (fun w => Eq.trans (b := .ok (.value (.int .u8 (xb (bt s (64 * i + j)) (bl (sw f i) j)))) w) (by kernel_rfl) (by rw [ob_at f s i j (by omega)])) w) <| qZ ?_
  refine pl_callr (want_no rfl) (some 33) rfl 130 #[.pointer (some ⟨k, 0, none⟩), .int .u8 (ob f s (64 * i + j))] .nilIface _ (fun _ => by kernel_rfl) ((hS.next M hS.nr).write (ob f s (64 * i + j)) (ob_nn _ _ _).1 (ob_nn _ _ _).2 (by rw [ot_length]; omega)) ?_
  intro u2 hS2
  refine nT <| au_block <| au_then <| rr_lit (by kernel_rfl) (fun _ _ h => hO _ _ h) <| ZI 34 ((j : Int) + 1) ((j + 1 : Nat) : Int) <| rV 1 <| nT ?_
  exact exS hS2
 ·intro a u0 hI
  clear M hS1 hS
  obtain ⟨v1, rfl, hS⟩ := hI
  by_cases hc : s.size - 64 * i ≤ 64
  ·have M := hS.mem hL
   refine wpIn_seq <| rr_lit (by kernel_rfl) (fun _ _ h => hO _ _ h) <| ZF 24 ((N : Int) < (N : Int)) <| nT <| wpIn_seq <| wpIn_cond_false (by kernel_rfl) <| wpIn_exit <| au_then_exit <| au_then_exit <| au_block_exit <| au_then <| wpIn_seq <| rr_lit (by kernel_rfl) (fun _ _ h => hO _ _ h) <| rV 1 <| zJ 36 (.int .i64 ((s.size - 64 * i : Nat) : Int)) (.int .i64 ((s.extract (64 * i) s.size).size : Int)) (by rw [ext_size]) <| ZT 37 (((s.size - 64 * i : Nat) : Int) ≤ 64) ?_
   refine nT <| wpIn_cond_true (by kernel_rfl) <| wpIn_exit <| au_block_out (by decide) ?_
   have e : 64 * i + N = s.size := by rw [← hN, Nat.min_eq_left hc]; omega
   have hS3 := hS.next M hS.nr
   rw [e] at hS3
   exact hend _ _ hc hS3
  ·have M := hS.mem hL
   refine wpIn_seq <| rr_lit (by kernel_rfl) (fun _ _ h => hO _ _ h) <| ZF 24 ((N : Int) < (N : Int)) <| nT <| wpIn_seq <| wpIn_cond_false (by kernel_rfl) <| wpIn_exit <| au_then_exit <| au_then_exit <| au_block_exit <| au_then <| wpIn_seq <| rr_lit (by kernel_rfl) (fun _ _ h => hO _ _ h) <| rV 1 <| zJ 36 (.int .i64 ((s.size - 64 * i : Nat) : Int)) (.int .i64 ((s.extract (64 * i) s.size).size : Int)) (by rw [ext_size]) <| ZF 37 (((s.size - 64 * i : Nat) : Int) ≤ 64) ?_
   refine nT <| wpIn_cond_false (by kernel_rfl) <| wpIn_skip <| au_block ?_
   have e : N = 64 := by rw [← hN]; exact Nat.min_eq_right (by omega)
   have hS3 := hS.next M hS.nr
   rw [e] at hS3
   exact hgo _ _ (by omega) hS3
open Go.RowKit
def lpr (st : LoopState) (pe : Option Code) (fn : FuncId) (T : Array Value) (sg bd : Code) (D : Nat) : Loop := { state := st, pending := pe, fn := fn, tmps := T, params := #[15, 16], assign := sg, body := bd, defers := D }
def tF (k gs : Nat) (v : NV) : Array Value := #[v 0, v 1, .pointer (some ⟨gs, 0, none⟩), v 3, v 4, .pointer (some ⟨k, 0, none⟩), v 6, v 7, v 8, v 9, v 10, v 11, v 12, v 13, v 14, v 15, v 16, v 17, v 18, v 19, v 20, v 21, v 22, v 23, v 24, v 25, v 26, v 27, v 28, v 29, v 30, v 31, v 32, v 33, v 34, v 35, v 36, v 37, v 38]
theorem fr_is {a b : Act} (h : a = b) {c : Code} {F : Fence} {n : Nat} {P : Program} {Q : Exit → Act → World → Prop} {w : World} (k : c.wpIn F n P Q b w) : c.wpIn F n P Q a w := by
 rw [h]
 exact k
theorem rg_yieldN {P : Program} {a : Act} {w : World} {Q : Exit → Act → World → Prop} {id : Nat} {l : List Oper} (m : Nat) (hd : (l.take m).all ndB = true) (hQ : ∀ a w, ¬ Q .outgrown a w) (h : PL P l.toArray (Exit.then (wpListIn (FW none) 0 P l.toArray Q (l.drop m)) Q) (l.take m) a w) : (Code.region id l.toArray false).wp P Q a w := by
 refine (wpIn_wide (n := 0)).1 <| wpIn_region_lit (F := FW none) ?_
 have h2 := list_in_then (ro := none) (n := 0) (l.take m) a w hd hQ h.out
 rw [List.take_append_drop] at h2
 exact h2
theorem nr_loop (r : Loop) : NR (.loop r) := fun _ _ e => by cases e
theorem nr_def (x : Option (List Deferred)) : NR (.deferred x) := fun _ _ e => by cases e
theorem nr_cells (c : Array Value) (T : TypeId) (h : T ≠ 5) : NR (.cells c T) := fun _ _ e => by
 cases e
 exact h rfl
theorem nrs_nil : ∀ b ∈ ([] : List Blk), NR b.Z := fun _ h => by cases h
theorem nrs_cons {x : Blk} {L : List Blk} (h : NR x.Z) (hs : ∀ b ∈ L, NR b.Z) : ∀ b ∈ x :: L, NR b.Z := fun b hb => by
 rcases List.mem_cons.1 hb with rfl | hb
 ·exact h
 ·exact hs b hb
theorem c_stream (f : NI) (w : World) (hL : Laid w) : Calls Tryz.prog 129 #[.agg (av 16 (w32 f))] w fun r w' => ∃ g, r = .returned (.func (.func 162) #[] #[.pointer (some ⟨g, 0, none⟩)]) ∧ w.heap.size ≤ g ∧ w'.heap[g]? = some (.cells (av 16 (w32 f)) 149) ∧ Below w.heap.size w w' := by
 go_enter Tryz.func129, Tryz.ntmps129
 have M := Mem.start hL
 refine sR <| pN M 1 (.cells (av 16 (w32 f)) 149) fun g1 u1 M => rV 1 <| nT <| sq <| wp_ret ?_
 exact bX (.func (.func 162) #[] #[.pointer (some ⟨g1, 0, none⟩)]) ⟨g1, rfl, (M.ge _ (List.mem_of_getElem? (i := 0) rfl)).elim id (fun h => by cases h), M.get 0 rfl, below_grown M.old⟩
theorem perm_last {α : Type} (x : α) : ∀ (L : List α), (L ++ [x]).Perm (x :: L) := fun L => List.perm_append_singleton x L
theorem c_iter (sg bd : Code) (hb : Tryz.f100.body.bind findRange = some (sg, bd)) (s : Yb) (f : NI) (hz : s.size ≤ 200000) (k gs gc lp D : Nat) (fn : FuncId) (v : NV) (w u : World) (hL : Laid w)
  (hS : ST w k [] [⟨gs, .cells (av 1 (fun _ => .string s)) 9⟩, ⟨gc, .cells (av 16 (w32 f)) 149⟩, ⟨lp, .loop (lpr .ready none fn (tF k gs v) sg bd D)⟩, ⟨D, .deferred (some [])⟩] u) : Calls Tryz.prog 162 #[.func (.yield lp) #[] #[], .pointer (some ⟨gc, 0, none⟩)] u fun e u' => (∃ v, e = .returned v) ∧ ST w k (ot f s s.size) [⟨gs, .cells (av 1 (fun _ => .string s)) 9⟩, ⟨gc, .cells (av 16 (w32 f)) 149⟩, ⟨lp, .loop (lpr .done (some (.exit 0)) fn (tF k gs v) sg bd D)⟩, ⟨D, .deferred (some [])⟩] u' := by
 go_enter Tryz.func162, Tryz.ntmps162
 have M := hS.mem hL
 refine sR <| pA M 5 1 16 (w32 f) <| pN M 3 (.cells (av 16 (w32 (fun _ => 0))) 149) fun g1 u1 M => ZG M 4 16 (w32 f) fun u2 M => nT <| sq <| wp_block ?_
 have hS1 := hS.next M (nrs_cons (nr_cells _ _ (by decide)) (nrs_cons (nr_cells _ _ (by decide)) (nrs_cons (nr_loop _) (nrs_cons (nr_def _) (nrs_cons (nr_cells _ _ (by decide)) (nrs_nil))))))
 obtain ⟨N, hN⟩ : ∃ N, N = (s.size - 1) / 64 := ⟨_, rfl⟩
 refine au_loop (fun j a u => ∃ v1 : NV, a = (fm ([.func (.yield lp) #[] #[], .pointer (some ⟨gc, 0, none⟩), undef, .pointer (some ⟨g1, 0, none⟩), .int .i64 ((64 * j : Nat) : Int), .agg (av 16 (w32 f))] ++ vr v1 6 11)) ∧ ST w k (ot f s (64 * j)) [⟨gs, .cells (av 1 (fun _ => .string s)) 9⟩, ⟨gc, .cells (av 16 (w32 f)) 149⟩, ⟨lp, .loop (lpr .ready none fn (tF k gs v) sg bd D)⟩, ⟨D, .deferred (some [])⟩, ⟨g1, .cells (av 16 (w32 (sw f j))) 149⟩] u) N (exS hS1) ?_ ?_
 ·intro j a u0 hj hI
  clear hS1 M hS
  obtain ⟨v1, rfl, hS⟩ := hI
  have M := hS.mem hL
  refine wp_seq <| wp_seq <| rg_yieldN 4 (by kernel_rfl) (fun _ _ h => by obtain ⟨⟨_, e⟩, _⟩ := h; cases e) ?_
  simp only [List.take_succ_cons, List.take_zero, List.drop_succ_cons, List.drop_zero]
  refine rV 2 <| pA M 8 4 16 (w32 (sw f j)) <| ZC M 9 (fun w M => c_block (sw f j) w M.laid) fun u3 M => nT ?_
  have hS2 := hS.next M (nrs_cons (nr_cells _ _ (by decide)) (nrs_cons (nr_cells _ _ (by decide)) (nrs_cons (nr_loop _) (nrs_cons (nr_def _) (nrs_cons (nr_cells _ _ (by decide)) (nrs_nil))))))
  refine pl_yield lp (lpr .ready none fn (tF k gs v) sg bd D) #[.int .i64 ((64 * j : Nat) : Int), .agg (av 64 (w8 (bl (sw f j))))] (M.get 2 rfl) rfl rfl (by kernel_rfl) (fun _ => by kernel_rfl) (want_no rfl) <| code_is1 (O := Tryz.f100.body.bind findRange) rfl hb <| fr_is (b := (fm ([v 0, v 1, .pointer (some ⟨gs, 0, none⟩), v 3, v 4, .pointer (some ⟨k, 0, none⟩)] ++ vr v 6 9 ++ [.int .i64 ((64 * j : Nat) : Int), .agg (av 64 (w8 (bl (sw f j))))] ++ vr v 17 22))) (by kernel_rfl) <| wpIn_seq <| rr_lit (by kernel_rfl) (fun _ _ h => h) <| rV 1 <| nT <| rr_lit (by kernel_rfl) (fun _ _ h => h) <| pN M 7 (.cells (av 64 (w8 (fun _ => 0))) 159) fun g52 u54 M => ZG M 5 64 (w8 (bl (sw f j))) fun u55 M => nT ?_
  refine ⟨M.get 2 rfl, ?_⟩
  have hS3 := (hS.next M (nrs_cons (nr_cells _ _ (by decide)) (nrs_cons (nr_cells _ _ (by decide)) (nrs_cons (nr_loop _) (nrs_cons (nr_def _) (nrs_cons (nr_cells _ _ (by decide)) (nrs_cons (nr_cells _ _ (by decide)) (nrs_nil)))))))).put hL 2 lp _ (.loop { lpr .ready none fn (tF k gs v) sg bd D with state := .busy }) rfl (nr_loop _)
  refine fr_is (b := (fm ([v 0, v 1, .pointer (some ⟨gs, 0, none⟩), v 3, v 4, .pointer (some ⟨k, 0, none⟩), .int .i64 ((64 * j : Nat) : Int), .pointer (some ⟨g52, 0, none⟩)] ++ vr v 8 7 ++ [.int .i64 ((64 * j : Nat) : Int), .agg (av 64 (w8 (bl (sw f j))))] ++ vr v 17 22))) (by kernel_rfl) ?_
  refine r_body sg bd hb s f j (by omega) hz k gs g52 lp [⟨gc, .cells (av 16 (w32 f)) 149⟩, ⟨lp, .loop (lpr .busy none fn (tF k gs v) sg bd D)⟩, ⟨D, .deferred (some [])⟩, ⟨g1, .cells (av 16 (w32 (sw f j))) 149⟩] (fun k_ => ([v 0, v 1, .pointer (some ⟨gs, 0, none⟩), v 3, v 4, .pointer (some ⟨k, 0, none⟩), .int .i64 ((64 * j : Nat) : Int), .pointer (some ⟨g52, 0, none⟩), v 8, v 9, v 10, v 11, v 12, v 13, v 14, .int .i64 ((64 * j : Nat) : Int), .agg (av 64 (w8 (bl (sw f j)))), v 17, v 18, v 19, v 20, v 21, v 22, v 23, v 24, v 25, v 26, v 27, v 28, v 29, v 30, v 31, v 32, v 33, v 34, v 35, v 36, v 37, v 38] : List Value).getD (k_ - 0) undef) w _ hL _ (fun _ _ h => h) (fun _ _ _ h => h) (hS3.perm (.cons _ (perm_last _ [_, _, _, _]))) ?_ ?_
  ·intro a9 u9 hc hS4
   refine ⟨lpr .busy none fn (tF k gs v) sg bd D, hS4.at_ _ (List.mem_of_getElem? (i := 3) rfl), ?_⟩
   have hS5 := (hS4.put hL 3 lp _ (.loop { lpr .busy none fn (tF k gs v) sg bd D with state := .ready, pending := none }) rfl (nr_loop _)).drop (.cons_cons _ (.cons _ (.cons_cons _ (.cons_cons _ (.cons_cons _ (.cons_cons _ .slnil))))))
   generalize u9.putObj lp _ = u8 at hS5 ⊢
   have hS6 : ST w k (ot f s (64 * j + 64)) [⟨gs, .cells (av 1 (fun _ => .string s)) 9⟩, ⟨gc, .cells (av 16 (w32 f)) 149⟩, ⟨lp, .loop (lpr .ready none fn (tF k gs v) sg bd D)⟩, ⟨D, .deferred (some [])⟩, ⟨g1, .cells (av 16 (w32 (sw f j))) 149⟩] u8 := hS5
   have M := hS6.mem hL
   refine au_then <| cT <| wp_skip <| au_then <| wp_seq <| wp_block <| rg_lit <| rV 1 <| ZE M 14 4 12 <| rV 2 <| ZP32 M 4 12 (va ((sw f j) 12) 1) fun u56 M => pl_nil <| au_block <| au_then <| rg_lit <| rV 1 ?_
   refine ZI 12 (((64 * j : Nat) : Int) + 64) ((64 * (j + 1) : Nat) : Int) <| rV 1 <| nT ?_
   exact exS (hS6.next M (nrs_cons (nr_cells _ _ (by decide)) (nrs_cons (nr_cells _ _ (by decide)) (nrs_cons (nr_loop _) (nrs_cons (nr_def _) (nrs_cons (nr_cells _ _ (by decide)) (nrs_nil)))))))
  ·intro a9 u9 hc _
   exact absurd hc (by omega)
 ·intro a u0 hI
  clear hS1 M hS
  obtain ⟨v1, rfl, hS⟩ := hI
  have M := hS.mem hL
  refine wp_seq <| wp_seq <| rg_yieldN 4 (by kernel_rfl) (fun _ _ h => by obtain ⟨⟨_, e⟩, _⟩ := h; cases e) ?_
  simp only [List.take_succ_cons, List.take_zero, List.drop_succ_cons, List.drop_zero]
  refine rV 2 <| pA M 8 4 16 (w32 (sw f N)) <| ZC M 9 (fun w M => c_block (sw f N) w M.laid) fun u57 M => nT ?_
  have hS2 := hS.next M (nrs_cons (nr_cells _ _ (by decide)) (nrs_cons (nr_cells _ _ (by decide)) (nrs_cons (nr_loop _) (nrs_cons (nr_def _) (nrs_cons (nr_cells _ _ (by decide)) (nrs_nil))))))
  refine pl_yield lp (lpr .ready none fn (tF k gs v) sg bd D) #[.int .i64 ((64 * N : Nat) : Int), .agg (av 64 (w8 (bl (sw f N))))] (M.get 2 rfl) rfl rfl (by kernel_rfl) (fun _ => by kernel_rfl) (want_no rfl) <| code_is1 (O := Tryz.f100.body.bind findRange) rfl hb <| fr_is (b := (fm ([v 0, v 1, .pointer (some ⟨gs, 0, none⟩), v 3, v 4, .pointer (some ⟨k, 0, none⟩)] ++ vr v 6 9 ++ [.int .i64 ((64 * N : Nat) : Int), .agg (av 64 (w8 (bl (sw f N))))] ++ vr v 17 22))) (by kernel_rfl) <| wpIn_seq <| rr_lit (by kernel_rfl) (fun _ _ h => h) <| rV 1 <| nT <| rr_lit (by kernel_rfl) (fun _ _ h => h) <| pN M 7 (.cells (av 64 (w8 (fun _ => 0))) 159) fun g103 u108 M => ZG M 5 64 (w8 (bl (sw f N))) fun u109 M => nT ?_
  refine ⟨M.get 2 rfl, ?_⟩
  have hS3 := (hS.next M (nrs_cons (nr_cells _ _ (by decide)) (nrs_cons (nr_cells _ _ (by decide)) (nrs_cons (nr_loop _) (nrs_cons (nr_def _) (nrs_cons (nr_cells _ _ (by decide)) (nrs_cons (nr_cells _ _ (by decide)) (nrs_nil)))))))).put hL 2 lp _ (.loop { lpr .ready none fn (tF k gs v) sg bd D with state := .busy }) rfl (nr_loop _)
  refine fr_is (b := (fm ([v 0, v 1, .pointer (some ⟨gs, 0, none⟩), v 3, v 4, .pointer (some ⟨k, 0, none⟩), .int .i64 ((64 * N : Nat) : Int), .pointer (some ⟨g103, 0, none⟩)] ++ vr v 8 7 ++ [.int .i64 ((64 * N : Nat) : Int), .agg (av 64 (w8 (bl (sw f N))))] ++ vr v 17 22))) (by kernel_rfl) ?_
  refine r_body sg bd hb s f N (by omega) hz k gs g103 lp [⟨gc, .cells (av 16 (w32 f)) 149⟩, ⟨lp, .loop (lpr .busy none fn (tF k gs v) sg bd D)⟩, ⟨D, .deferred (some [])⟩, ⟨g1, .cells (av 16 (w32 (sw f N))) 149⟩] (fun k_ => ([v 0, v 1, .pointer (some ⟨gs, 0, none⟩), v 3, v 4, .pointer (some ⟨k, 0, none⟩), .int .i64 ((64 * N : Nat) : Int), .pointer (some ⟨g103, 0, none⟩), v 8, v 9, v 10, v 11, v 12, v 13, v 14, .int .i64 ((64 * N : Nat) : Int), .agg (av 64 (w8 (bl (sw f N)))), v 17, v 18, v 19, v 20, v 21, v 22, v 23, v 24, v 25, v 26, v 27, v 28, v 29, v 30, v 31, v 32, v 33, v 34, v 35, v 36, v 37, v 38] : List Value).getD (k_ - 0) undef) w _ hL _ (fun _ _ h => h) (fun _ _ _ h => h) (hS3.perm (.cons _ (perm_last _ [_, _, _, _]))) ?_ ?_
  ·intro a9 u9 hc _
   exact absurd hc (by omega)
  ·intro a9 u9 hc hS4
   refine ⟨lpr .busy none fn (tF k gs v) sg bd D, hS4.at_ _ (List.mem_of_getElem? (i := 3) rfl), ?_⟩
   have hS5 := (hS4.put hL 3 lp _ (.loop { lpr .busy none fn (tF k gs v) sg bd D with state := .done, pending := (some (.exit 0)) }) rfl (nr_loop _)).drop (.cons_cons _ (.cons _ (.cons_cons _ (.cons_cons _ (.cons_cons _ (.cons_cons _ .slnil))))))
   generalize u9.putObj lp _ = u8 at hS5 ⊢
   have hS6 : ST w k (ot f s s.size) [⟨gs, .cells (av 1 (fun _ => .string s)) 9⟩, ⟨gc, .cells (av 16 (w32 f)) 149⟩, ⟨lp, .loop (lpr .done (some (.exit 0)) fn (tF k gs v) sg bd D)⟩, ⟨D, .deferred (some [])⟩, ⟨g1, .cells (av 16 (w32 (sw f N))) 149⟩] u8 := hS5
   have M := hS6.mem hL
   refine au_then <| cF <| wp_exit <| au_then_exit <| au_then_exit <| au_block_exit ?_
   exact bodyPost_end (v := .tuple #[]) (results_none Tryz.results162 _ _) (by kernel_rfl) ⟨⟨_, rfl⟩, (hS6.next M (nrs_cons (nr_cells _ _ (by decide)) (nrs_cons (nr_cells _ _ (by decide)) (nrs_cons (nr_loop _) (nrs_cons (nr_def _) (nrs_cons (nr_cells _ _ (by decide)) (nrs_nil))))))).drop (.cons_cons _ (.cons_cons _ (.cons_cons _ (.cons_cons _ (.cons _ .slnil)))))⟩
open Go.RowKit
open Go.Shelf
theorem ST.alloc2 {w u : World} {k : Nat} {l : List UInt8} {L : List Blk} (h : ST w k l L u) (hL : Laid w) (Z1 Z2 : Obj) (h1 : NR Z1) (h2 : NR Z2) : ST w k l (L ++ [⟨u.heap.size, Z1⟩, ⟨u.heap.size + 1, Z2⟩]) ((u.alloc Z1).alloc Z2) := by
 have M1 := (h.mem hL).new u.heap.size Z1 (new_below u Z1) (heap_alloc_new u Z1) (Nat.le_refl _)
 have e : (u.alloc Z1).heap.size = u.heap.size + 1 := World.size_alloc _ _
 have M2 := M1.new (u.heap.size + 1) Z2 (new_below (u.alloc Z1) Z2) (by rw [← e]; exact heap_alloc_new (u.alloc Z1) Z2) (by rw [e]; exact Nat.le_refl _)
 have h3 := h.next M2 (fun b hb => by
  rcases List.mem_append.1 hb with hb | hb
  ·rcases List.mem_append.1 hb with hb | hb
   ·exact h.nr b hb
   ·rw [List.mem_singleton.1 hb]
    exact h1
  ·rw [List.mem_singleton.1 hb]
   exact h2)
 rw [List.append_assoc] at h3
 exact h3
theorem ST.get {w u : World} {k : Nat} {l : List UInt8} {L : List Blk} (h : ST w k l L u) (i : Nat) {g : Nat} {Z : Obj} (hi : L[i]? = some ⟨g, Z⟩) : u.heap[g]? = some Z := h.at_ _ (List.mem_of_getElem? hi)
theorem ST.start {w u : World} {gs gf k n : Nat} {Zs Zf : Obj} (M : Mem ⟨w, []⟩ [⟨gs, Zs⟩, ⟨gf, Zf⟩, ⟨k, .cells (av 2 bF0) 177⟩] u) (h1 : gs < k) (h2 : gf < k) (hs : NR Zs) (hf : NR Zf) (hn : n ≤ 200000) : Calls Tryz.prog 128 #[.pointer (some ⟨k, 0, none⟩), .int .i64 (n : Int)] u fun r u' => r = .returned (.tuple #[]) ∧ ST w k [] [⟨gs, Zs⟩, ⟨gf, Zf⟩] u' := by
 have hkl : k < u.heap.size := (Array.getElem?_eq_some_iff.1 (M.get 2 rfl)).1
 have g1 : w.heap.size ≤ gs := (M.ge _ (List.mem_of_getElem? (i := 0) rfl)).elim id (fun h => by cases h)
 have g2 : w.heap.size ≤ gf := (M.ge _ (List.mem_of_getElem? (i := 1) rfl)).elim id (fun h => by cases h)
 refine (Any.Builder_Grow_fresh (P := Tryz.prog) (ρ := repRen) lays165 repExtra k k n u (Nat.le_refl _) (M.get 2 rfl) (by omega) (by omega)).mono ?_
 rintro r u' ⟨rfl, h3, h4⟩
 have hb0 : Below w.heap.size w u := below_grown M.old
 refine ⟨rfl, hb0.trans (h4.mono (by omega)), by omega, .inr (Lib.BuilderAtF.of h3), ?_, ?_, nrs_cons hs (nrs_cons hf nrs_nil), ?_, ?_⟩
 ·intro b hb
  rcases List.mem_cons.1 hb with rfl | hb
  ·exact (h4.block gs h1).trans (M.get 0 rfl)
  ·rw [List.mem_singleton.1 hb]
   exact (h4.block gf h2).trans (M.get 1 rfl)
 ·intro b hb
  rcases List.mem_cons.1 hb with rfl | hb
  ·show gs ≠ k
   omega
  ·rw [List.mem_singleton.1 hb]
   show gf ≠ k
   omega
 ·intro b hb
  rcases List.mem_cons.1 hb with rfl | hb
  ·exact g1
  ·rw [List.mem_singleton.1 hb]
   exact g2
 ·have := M.nodup
  simp at this
  simp [this.1.1]
theorem c_iterT (sg bd : Code) (hb : Tryz.f100.body.bind findRange = some (sg, bd)) (s : Yb) (f : NI) (hz : s.size ≤ 200000) (k gs gc lp D : Nat) (fn : FuncId) (v : NV) (T : Array Value) (hT : T = tF k gs v) (w u : World) (hL : Laid w)
  (hS : ST w k [] [⟨gs, .cells (av 1 (fun _ => .string s)) 9⟩, ⟨gc, .cells (av 16 (w32 f)) 149⟩, ⟨lp, .loop (lpr .ready none fn T sg bd D)⟩, ⟨D, .deferred (some [])⟩] u) : Calls Tryz.prog 162 #[.func (.yield lp) #[] #[], .pointer (some ⟨gc, 0, none⟩)] u fun e u' => (∃ v, e = .returned v) ∧ ∃ r : Loop, r.state ≠ .busy ∧ r.pending = some (.exit 0) ∧ ST w k (ot f s s.size) [⟨gs, .cells (av 1 (fun _ => .string s)) 9⟩, ⟨gc, .cells (av 16 (w32 f)) 149⟩, ⟨lp, .loop r⟩, ⟨D, .deferred (some [])⟩] u' := by
 subst hT
 exact (c_iter sg bd hb s f hz k gs gc lp D fn v w u hL hS).mono fun e u' h => ⟨h.1, lpr .done (some (.exit 0)) fn (tF k gs v) sg bd D, (show LoopState.done ≠ LoopState.busy by decide), rfl, h.2⟩
theorem fr_w {a b : Act} (h : a = b) {c : Code} {P : Program} {Q : Exit → Act → World → Prop} {w : World} (k : c.wp P Q b w) : c.wp P Q a w := by
 rw [h]
 exact k
def oS (f : NI) (s : Yb) : ByteArray := ⟨(ot f s s.size).toArray⟩
theorem c_turned (s : Yb) (f : NI) (hz : s.size ≤ 200000) (w : World) (hL : Laid w) : Cs 100 #[.string s, .agg (av 16 (w32 f))] w (.string (oS f s)) := by
 refine (callsIn_wide (n := 0)).1 (callsIn_of_wp_marks Tryz.func100 rfl trivial ?_)
 refine (wpIn_wide (n := 0)).2 <| fr_w (b := (fm ([.string s, .agg (av 16 (w32 f))] ++ und 37))) (by kernel_rfl) ?_
 have M := Mem.start hL
 refine sR <| pN M 2 (.cells (av 1 (fun _ => .string s)) 9) fun g1 u1 M => pN M 3 (.cells (av 16 (w32 f)) 149) fun g2 u2 M => rV 1 <| nT <| sR <| pl_newB M (want_no rfl) (some 5) rfl (.cells (av 2 bF0) 177) (fun _ => by kernel_rfl) ?_
 intro g3 u3 hlt M
 refine nT <| sR <| ZE M 10 0 0 <| rV 1 <| pl_callr (want_no rfl) (some 12) rfl 128 #[.pointer (some ⟨g3, 0, none⟩), .int .i64 (s.size : Int)] (.tuple #[]) _ (fun _ => by kernel_rfl) (ST.start M (hlt _ (List.mem_of_getElem? (i := 0) rfl)) (hlt _ (List.mem_of_getElem? (i := 1) rfl)) (nr_cells _ _ (by decide)) (nr_cells _ _ (by decide)) hz) ?_
 intro u4 hS
 clear M
 have M := hS.mem hL
 refine nT <| wp_seq <| sR <| pA M 13 1 16 (w32 f) <| pl_calln M (want_no rfl) (some 14) rfl 129 #[.agg (av 16 (w32 f))] (fun g4 => .func (.func 162) #[] #[.pointer (some ⟨g4, 0, none⟩)]) (.cells (av 16 (w32 f)) 149) (fun _ => by kernel_rfl) (fun w M => c_stream f w M.laid) fun g4 u5 M => nT <| wp_block ?_
 have hS1 := (hS.next M (nrs_cons (nr_cells _ _ (by decide)) (nrs_cons (nr_cells _ _ (by decide)) (nrs_cons (nr_cells _ _ (by decide)) nrs_nil)))).drop (L' := [⟨g1, .cells (av 1 (fun _ => .string s)) 9⟩, ⟨g4, .cells (av 16 (w32 f)) 149⟩]) (.cons_cons _ (.cons _ (.cons_cons _ .slnil)))
 refine fr_w (b := (fm ([.string s, .agg (av 16 (w32 f)), .pointer (some ⟨g1, 0, none⟩), .pointer (some ⟨g2, 0, none⟩), .string ⟨#[]⟩, .pointer (some ⟨g3, 0, none⟩)] ++ und 4 ++ [.string s, .int .i64 (s.size : Int), .tuple #[], .agg (av 16 (w32 f)), .func (.func 162) #[] #[.pointer (some ⟨g4, 0, none⟩)]] ++ und 24))) (by kernel_rfl) <| wp_range (gf := 162) (lb := #[.pointer (some ⟨g4, 0, none⟩)]) rfl (enters_of Tryz.func162 (by kernel_rfl) rfl) ?_
 intro fn
 refine (c_iterT _ _ rfl s f hz g3 g1 g4 _ _ fn (fun k_ => ([.string s, .agg (av 16 (w32 f)), .pointer (some ⟨g1, 0, none⟩), .pointer (some ⟨g2, 0, none⟩), .string ⟨#[]⟩, .pointer (some ⟨g3, 0, none⟩), undef, undef, undef, undef, .string s, .int .i64 (s.size : Int), .tuple #[], .agg (av 16 (w32 f)), .func (.func 162) #[] #[.pointer (some ⟨g4, 0, none⟩)], undef, undef, undef, undef, undef, undef, undef, undef, undef, undef, undef, undef, undef, undef, undef, undef, undef, undef, undef, undef, undef, undef, undef, undef] : List Value).getD (k_ - 0) undef) _ (by kernel_rfl) w _ hL ((hS1.alloc2 hL _ _ (nr_def _) (nr_loop _)).perm (.cons _ (.cons _ (.swap _ _ _))))).mono ?_
 rintro e w3 ⟨he, r, hr1, hr2, hS2⟩
 refine ⟨he, r, hS2.get 2 rfl, hr1, ?_⟩
 rw [hr2]
 clear M
 refine wp_exit <| au_block_exit <| au_then <| sR <| pl_callr (want_no rfl) (some 38) rfl 131 #[.pointer (some ⟨g3, 0, none⟩)] (.string (oS f s)) _ (fun _ => by kernel_rfl) (hS2.put hL 2 _ _ _ rfl (nr_loop _)).str ?_
 intro u6 hS4
 refine rV 1 <| nT <| wp_ret ?_
 refine marks_ret (v := .string (oS f s)) rfl (hS4.get 3 rfl) (fun w => results_tmp1 Tryz.results100 _ w _ (by kernel_rfl)) ⟨rfl, (hS4.put hL 3 _ _ (.deferred none) rfl (nr_def _)).bel⟩
open Go.RowKit
theorem cvu64 (n : Nat) (h : n < 1000000000000) : cv .u64 (n : Int) = (n : Int) := by
 unfold cv
 simp [IntKind.wrap, IntKind.signed, IntKind.bits]
 omega
theorem wu64 (n : Nat) (h : n < 1000000000000) : IntKind.wrap .u64 (n : Int) = (n : Int) := cvu64 n h
theorem quoU (n : Nat) (h : n < 1000000000000) : IntKind.wrap .u64 ((n : Int).tdiv 64) = ((n / 64 : Nat) : Int) := by
 rw [Int.tdiv_eq_ediv_of_nonneg (by omega), show ((n : Int) / 64) = ((n / 64 : Nat) : Int) by omega, wu64 _ (by omega)]
theorem bl_nn (f : NI) (i : Nat) : 0 ≤ bl f i ∧ bl f i < 256 := by
 unfold bl cv
 simp [IntKind.wrap, IntKind.signed, IntKind.bits]
 omega
def blk (f : NI) : ByteArray := bs ((List.range 64).map (bl f))
theorem blk_size (f : NI) : (blk f).size = 64 := by
 unfold blk
 rw [bs_size]
 simp
theorem blk_nn (f : NI) : ∀ x ∈ (List.range 64).map (bl f), 0 ≤ x ∧ x < 256 := fun x hx => by
 obtain ⟨i, _, rfl⟩ := List.mem_map.1 hx
 exact bl_nn f i
def strE : ByteArray := ⟨#[]⟩
theorem c_areA (key nonce : Yb) (hk : key.size = 32) (hn : nonce.size = 12) (w : World) (hL : Laid w)  : Cs 98 #[.string key, .string nonce] w (.bool true) := by
 go_enter Tryz.func98, Tryz.ntmps98
 have M := Mem.start hL
 refine sq <| sR <| rV 2 <| ZT 7 ((key.size : Int) = 32) <| rV 3 <| ZT 11 ((nonce.size : Int) = 12) <| rV 2 <| nT <| wp_ret ?_
 exact b1 M
theorem c_areB (key nonce : Yb) (hk : key.size = 32) (hn : nonce.size ≠ 12) (w : World) (hL : Laid w)  : Cs 98 #[.string key, .string nonce] w (.bool false) := by
 go_enter Tryz.func98, Tryz.ntmps98
 have M := Mem.start hL
 refine sq <| sR <| rV 2 <| ZT 7 ((key.size : Int) = 32) <| rV 3 <| ZF 11 ((nonce.size : Int) = 12) <| rV 2 <| nT <| wp_ret ?_
 exact b1 M
theorem c_areC (key nonce : Yb) (hk : key.size ≠ 32) (w : World) (hL : Laid w)  : Cs 98 #[.string key, .string nonce] w (.bool false) := by
 go_enter Tryz.func98, Tryz.ntmps98
 have M := Mem.start hL
 refine sq <| sR <| rV 2 <| ZF 7 ((key.size : Int) = 32) <| rV 6 <| nT <| wp_ret ?_
 exact b1 M
theorem c_are (key nonce : Yb) (w : World) (hL : Laid w) : Calls Tryz.prog 98 #[.string key, .string nonce] w fun r w' => r = .returned (.bool (decide (key.size = 32 ∧ nonce.size = 12))) ∧ Below w.heap.size w w' := by
 by_cases hk : key.size = 32
 ·by_cases hn : nonce.size = 12
  ·rw [decide_eq_true ⟨hk, hn⟩]
   exact c_areA key nonce hk hn w hL
  ·rw [decide_eq_false (fun h => hn h.2)]
   exact c_areB key nonce hk hn w hL
 ·rw [decide_eq_false (fun h => hk h.1)]
  exact c_areC key nonce hk w hL
theorem c_need (s : Yb) (hz : s.size ≤ 200000) (w : World) (hL : Laid w)  : Cs 99 #[.string s] w (.int .u64 (((s.size + 63) / 64 : Nat) : Int)) := by
 go_enter Tryz.func99, Tryz.ntmps99
 have M := Mem.start hL
 refine sq <| sR <| rV 2 <| ZQ 5 .u64 (cv .u64 (s.size : Int)) (cvu64 _ (by omega)) <| zJ 6 (.int .u64 ((s.size + 64 : Nat) : Int)) (.int .u64 (IntKind.wrap .u64 ((s.size : Int) + 64))) (by rw [show (s.size : Int) + 64 = ((s.size + 64 : Nat) : Int) by omega, wu64 _ (by omega)]) <| zJ 7 (.int .u64 ((s.size + 63 : Nat) : Int)) (.int .u64 (IntKind.wrap .u64 (((s.size + 64 : Nat) : Int) - 1))) (by rw [show ((s.size + 64 : Nat) : Int) - 1 = ((s.size + 63 : Nat) : Int) by omega, wu64 _ (by omega)]) <| ZQ 8 .u64 (IntKind.wrap .u64 (((s.size + 63 : Nat) : Int).tdiv 64)) (quoU _ (by omega)) <| rV 1 <| nT <| wp_ret ?_
 exact b1 M
theorem c_BlockA (key nonce : Yb) (n : Int) (hm : (key.size = 32 ∧ nonce.size = 12)) (w : World) (hL : Laid w)  : Cs 102 #[.string key, .string nonce, .int .u32 n] w (.tuple #[.string (blk (fw key nonce n)), .int .i64 0]) := by
 go_enter Tryz.func102, Tryz.ntmps102
 have M := Mem.start hL
 refine sq <| wp_seq <| sR <| rV 2 <| pC M 11 98 #[.string key, .string nonce] (.bool true) (fun w M => (by rw [← decide_eq_true hm]; exact c_are key nonce w M.laid)) fun u1 M => rV 1 <| nT <| cF <| wp_skip <| au_then <| sR <| rV 3 <| ZC M 16 (fun w M => c_first key nonce n hm.1 hm.2 w M.laid) fun u2 M => ZC M 17 (fun w M => c_block (fw key nonce n) w M.laid) fun u3 M => pN M 8 (.cells (av 64 (w8 (fun _ => 0))) 159) fun g1 u4 M => ZG M 0 64 (w8 (bl (fw key nonce n))) fun u5 M => ?_
 refine nT <| sR <| rV 1 <| pl_back M (want_no rfl) (some 19) rfl _ rfl 0 g1 64 64 (by kernel_rfl) _ rfl ((List.range 64).map (bl (fw key nonce n))) 64 (sb_av 64 _ _) (by simp) (blk_nn _) <| rV 2 <| nT <| wp_ret ?_
 exact b1 M
theorem c_TurnA (key nonce : Yb) (n : Nat) (hn : n < 4294967296) (s : Yb) (hz : s.size ≤ 200000) (hm : (key.size = 32 ∧ nonce.size = 12)) (hl : ¬ (4294967296 < n + (s.size + 63) / 64)) (w : World) (hL : Laid w)  : Cs 72 #[.string key, .string nonce, .int .u32 (n : Int), .string s] w (.tuple #[.string (oS (fw key nonce (n : Int)) s), .int .i64 0]) := by
 go_enter Tryz.func72, Tryz.ntmps72
 have M := Mem.start hL
 refine sq <| wp_seq <| sR <| rV 2 <| pC M 12 98 #[.string key, .string nonce] (.bool true) (fun w M => (by rw [← decide_eq_true hm]; exact c_are key nonce w M.laid)) fun u1 M => rV 1 <| nT <| cF <| wp_skip <| au_then <| wp_seq <| sR <| rV 1 <| ZQ 15 .u64 (cv .u64 (n : Int)) (cvu64 _ (by omega)) <| rV 1 <| ZC M 17 (fun w M => c_need s hz w M.laid) fun u2 M => ?_
 refine zJ 18 (.int .u64 ((n + (s.size + 63) / 64 : Nat) : Int)) (.int .u64 (IntKind.wrap .u64 ((n : Int) + (((s.size + 63) / 64 : Nat) : Int)))) (by rw [show (n : Int) + (((s.size + 63) / 64 : Nat) : Int) = ((n + (s.size + 63) / 64 : Nat) : Int) by omega, wu64 _ (by omega)]) <| ZF 19 ((4294967296 : Int) < ((n + (s.size + 63) / 64 : Nat) : Int)) <| nT <| cF <| wp_skip <| au_then <| sR <| rV 4 <| ZC M 24 (fun w M => c_first key nonce (n : Int) hm.1 hm.2 w M.laid) fun u3 M => ZC M 25 (fun w M => c_turned s (fw key nonce (n : Int)) hz w M.laid) fun u4 M => rV 2 <| nT <| wp_ret ?_
 exact b1 M
open Go.RowKit
section
variable {P : Program} {ops : Array Oper} {rest : List Oper} {o : Oper} {a : Act} {w : World} {c : Ctx} {L : List Blk} {Q : Exit → Act → World → Prop}
theorem SB.put {Z : Obj} {cap : Nat} {l : List Value} (h : SB Z cap l) {i : Nat} (hi : i < l.length) (v : Value) {W : World} {g : Nat} (hz : W.heap[g]? = some Z) : ∃ Z', (W.setCell ⟨g, i, none⟩ v).heap[g]? = some Z' ∧ SB Z' cap (l.set i v) := by
 obtain ⟨cs, T, fr, rfl, h1, h2, h3, h4⟩ := h.ex
 refine ⟨.cells (cs.setIfInBounds i v) T fr, ?_, ⟨_, T, fr, rfl, by simpa using h1, by simpa using h2, fun j hj => ?_, h4⟩⟩
 ·simp [World.setCell, Array.getElem?_modify, hz]
 ·rw [List.length_set] at hj
  rw [Array.getElem?_setIfInBounds, List.getElem?_set]
  by_cases e : i = j
  ·subst e
   rw [if_pos rfl, if_pos rfl, if_pos (by omega), if_pos hi]
  ·rw [if_neg e, if_neg e, h3 j hj]
theorem SB.free {Z : Obj} {cap : Nat} {l : List Value} (h : SB Z cap l) {i : Nat} (hi : i < l.length) {W : World} {g : Nat} (hz : W.heap[g]? = some Z) : W.frozen? ⟨g, i, none⟩ = false := by
 obtain ⟨cs, T, fr, rfl, h1, h2, h3, h4⟩ := h.ex
 unfold World.frozen?
 rw [hz]
 exact h4 i (by omega)
theorem pl_putS (M : Mem c L w) (hw : Region.wanted o (yielded ops a.tmps) = true) (hd : o.dst = none) (ty : TypeId) (x y : Operand) (ho : o.op = .store ty x y) (i g off : Nat) (hx : a.eval x = .pointer (some ⟨g, off, none⟩)) (Z : Obj) (hi : L[i]? = some ⟨g, Z⟩) (cap : Nat) (l : List Value) (hs : SB Z cap l) (hk : off < l.length) (v : Value)
  (hy : a.eval y = v) (hz : (P.info? ty).map (·.size) = some 1) (h1 : v.oneCell' = true) (hc : v.cells = #[v])
  (h : ∀ Z' w', SB Z' cap (l.set off v) → Mem c (L.set i ⟨g, Z'⟩) w' → PL P ops Q rest a w') : PL P ops Q (o :: rest) a w := by
 have R := M.get i hi
 obtain ⟨Z', h2, h3⟩ := hs.put hk v R
 have h4 := h Z' (w.setCell ⟨g, off, none⟩ v) h3 (M.put i ⟨g, _⟩ hi _ (grown_setCell w g off v) h2)
 have hcell : w.cell? ⟨g, off, none⟩ = some l[off] := hs.cell R (List.getElem?_eq_getElem hk)
 have hrun : (Instr.storeAt ty (.pointer (some ⟨g, off, none⟩)) v).run P w = .ok () (w.setCell ⟨g, off, none⟩ v) := by
  cases hq : P.info? ty with
  | none => simp [hq] at hz
  | some t =>
   have ht : t.size = 1 := by simpa [hq] using hz
   have hcc := run_storeCells_cells (P := P) g off [v] 0 w (by intro j hj; simp at hj; subst hj; simp [hcell]) (by intro j hj; simp at hj; subst hj; simpa using hs.free hk R) (by simpa using h1)
   simp only [Nat.add_zero, World.setCells] at hcc
   simp [Instr.storeAt, Instr.sureAddr, storeVar, sizeOf, typeInfo, hq, ht, hc, hcc]
 refine ⟨Go.BigFrame.wpList_want hw fun K hK => ?_⟩
 unfold Oper.wp execOp
 simp only [ho, hx, hy, Sem.run_bind, hrun, Result.andThen_ok, Sem.run_pure]
 show K (a.put o.dst undef) _
 rw [hd]
 exact hK _ _ h4.out
end
def wd4 (s : Yb) : Int := vo (vo (vo (cv .u32 (bt s 0)) (vl (cv .u32 (bt s 1)) 8)) (vl (cv .u32 (bt s 2)) 16)) (vl (cv .u32 (bt s 3)) 24)
theorem up_at (f : NI) (k : Nat) (x : Int) : upd f k x k = x := if_pos rfl
theorem up_ne (f : NI) (k : Nat) (x : Int) {j : Nat} (h : j ≠ k) : upd f k x j = f j := if_neg h
theorem up_comm (f : NI) {i j : Nat} (h : i ≠ j) (x y : Int) : upd (upd f i x) j y = upd (upd f j y) i x := by
 funext t
 unfold upd
 by_cases h1 : t = j
 ·subst h1
  rw [if_pos rfl, if_neg (Ne.symm h), if_pos rfl]
 ·rw [if_neg h1, if_neg h1]
def nb (n : Int) : Nat → Int
 | 0 => cv .u8 n
 | 1 => cv .u8 (sr n 8)
 | 2 => cv .u8 (sr n 16)
 | 3 => cv .u8 (sr n 24)
 | _ => 0
theorem cv8_nn (x : Int) : 0 ≤ cv .u8 x ∧ cv .u8 x < 256 := by
 unfold cv
 simp [IntKind.wrap, IntKind.signed, IntKind.bits]
 omega
theorem nb_nn (n : Int) : ∀ x ∈ (List.range 4).map (nb n), 0 ≤ x ∧ x < 256 := fun x hx => by
 obtain ⟨i, hi, rfl⟩ := List.mem_map.1 hx
 have hi := List.mem_range.1 hi
 rcases i with _ | _ | _ | _ | i
 ·exact cv8_nn _
 ·exact cv8_nn _
 ·exact cv8_nn _
 ·exact cv8_nn _
 ·omega
def nB (n : Int) : ByteArray := bs ((List.range 4).map (nb n))
theorem nB_size (n : Int) : (nB n).size = 4 := by
 unfold nB
 rw [bs_size]
 rfl
def alS (key nonce : Yb) (n : Int) : ByteArray := strK ++ key ++ nB n ++ nonce
theorem strK_size : strK.size = 16 := rfl
theorem alS_size (key nonce : Yb) (n : Int) (hk : key.size = 32) (hn : nonce.size = 12) : (alS key nonce n).size = 64 := by
 unfold alS
 rw [ByteArray.size_append, ByteArray.size_append, ByteArray.size_append, nB_size, strK_size, hk, hn]
def dx (al : Yb) : Nat → (Nat → Int)
 | 0 => fun _ => 0
 | j + 1 => upd (dx al j) j (wd4 (al.extract (4 * j) (4 * j + 4)))
open Go.RowKit
def dl (s : Yb) (g : NI) (j : Nat) : List Int := (List.range s.size).map fun i => if i < j then g i else bt s i
theorem dl_length (s : Yb) (g : NI) (j : Nat) : (dl s g j).length = s.size := by simp [dl]
theorem dl_zero (s : Yb) (g : NI) : sb s = dl s g 0 := by
 refine List.ext_getElem? fun i => ?_
 by_cases h : i < s.size
 ·rw [sb_get s i h]
  simp [dl, h]
 ·rw [List.getElem?_eq_none (by rw [sb_length]; omega), List.getElem?_eq_none (by rw [dl_length]; omega)]
open Go.RowKit
theorem cv32 (c : Int) (h0 : 0 ≤ c) (h1 : c < 256) : cv .u32 c = c := by
 unfold cv
 obtain ⟨n, rfl⟩ : ∃ n : Nat, c = (n : Int) := ⟨c.toNat, by omega⟩
 exact wrap32_nat n (by omega)
theorem vl_nat (x k : Nat) (h : x * 2 ^ k < 4294967296) : vl (x : Int) k = ((x * 2 ^ k : Nat) : Int) := by
 unfold vl
 rw [← wrap32_nat _ h]
 congr 1
theorem vo_nat (x y : Nat) (hx : x < 4294967296) (hy : y < 4294967296) : vo (x : Int) (y : Int) = ((x ||| y : Nat) : Int) := by
 unfold vo
 have h1 : BitVec.ofInt 32 (x : Int) = BitVec.ofNat 32 x := by
  apply BitVec.eq_of_toNat_eq
  rw [BitVec.toNat_ofInt, BitVec.toNat_ofNat]
  omega
 have h2 : BitVec.ofInt 32 (y : Int) = BitVec.ofNat 32 y := by
  apply BitVec.eq_of_toNat_eq
  rw [BitVec.toNat_ofInt, BitVec.toNat_ofNat]
  omega
 rw [h1, h2, wrap32_nat _ (BitVec.isLt _), BitVec.toNat_or, BitVec.toNat_ofNat, BitVec.toNat_ofNat, Nat.mod_eq_of_lt (by omega), Nat.mod_eq_of_lt (by omega)]
theorem vo_add (k x c : Nat) (hx : x < 2 ^ k) (h : 2 ^ k * c + x < 4294967296) : vo (x : Int) ((2 ^ k * c : Nat) : Int) = ((2 ^ k * c + x : Nat) : Int) := by
 rw [vo_nat _ _ (by omega) (by omega), Nat.or_comm, Nat.two_pow_add_eq_or_of_lt hx c]
theorem vo_vl0 (x c : Int) (hx0 : 0 ≤ x) (hx : x < 1) (hc0 : 0 ≤ c) (hc : c < 256) : vo x (vl (cv .u32 c) 0) = x + 1 * c := by
 rw [cv32 c hc0 hc]
 obtain ⟨a, rfl⟩ : ∃ a : Nat, x = (a : Int) := ⟨x.toNat, by omega⟩
 obtain ⟨b, rfl⟩ : ∃ b : Nat, c = (b : Int) := ⟨c.toNat, by omega⟩
 rw [vl_nat b 0 (by omega), show b * 2 ^ 0 = 2 ^ 0 * b by omega, vo_add 0 a b (by omega) (by omega)]
 omega
theorem vo_vl1 (x c : Int) (hx0 : 0 ≤ x) (hx : x < 256) (hc0 : 0 ≤ c) (hc : c < 256) : vo x (vl (cv .u32 c) 8) = x + 256 * c := by
 rw [cv32 c hc0 hc]
 obtain ⟨a, rfl⟩ : ∃ a : Nat, x = (a : Int) := ⟨x.toNat, by omega⟩
 obtain ⟨b, rfl⟩ : ∃ b : Nat, c = (b : Int) := ⟨c.toNat, by omega⟩
 rw [vl_nat b 8 (by omega), show b * 2 ^ 8 = 2 ^ 8 * b by omega, vo_add 8 a b (by omega) (by omega)]
 omega
theorem vo_vl2 (x c : Int) (hx0 : 0 ≤ x) (hx : x < 65536) (hc0 : 0 ≤ c) (hc : c < 256) : vo x (vl (cv .u32 c) 16) = x + 65536 * c := by
 rw [cv32 c hc0 hc]
 obtain ⟨a, rfl⟩ : ∃ a : Nat, x = (a : Int) := ⟨x.toNat, by omega⟩
 obtain ⟨b, rfl⟩ : ∃ b : Nat, c = (b : Int) := ⟨c.toNat, by omega⟩
 rw [vl_nat b 16 (by omega), show b * 2 ^ 16 = 2 ^ 16 * b by omega, vo_add 16 a b (by omega) (by omega)]
 omega
theorem vo_vl3 (x c : Int) (hx0 : 0 ≤ x) (hx : x < 16777216) (hc0 : 0 ≤ c) (hc : c < 256) : vo x (vl (cv .u32 c) 24) = x + 16777216 * c := by
 rw [cv32 c hc0 hc]
 obtain ⟨a, rfl⟩ : ∃ a : Nat, x = (a : Int) := ⟨x.toNat, by omega⟩
 obtain ⟨b, rfl⟩ : ∃ b : Nat, c = (b : Int) := ⟨c.toNat, by omega⟩
 rw [vl_nat b 24 (by omega), show b * 2 ^ 24 = 2 ^ 24 * b by omega, vo_add 24 a b (by omega) (by omega)]
 omega
theorem pw_no (v : NI) (p : Nat) (b : NI) (t : Nat) : ∀ m, (∀ j, j < m → t ≠ p + j / 4) → pw v p b m t = v t
 | 0, _ => rfl
 | m + 1, h => by
  unfold pw
  rw [up_ne _ _ _ (h m (by omega)), pw_no v p b t m (fun j hj => h j (by omega))]
theorem pw_done (v : NI) (p : Nat) (b : NI) (q : Nat) : ∀ d, pw v p b (4 * q + 4 + d) (p + q) = pw v p b (4 * q + 4) (p + q)
 | 0 => rfl
 | d + 1 => by
  show upd (pw v p b (4 * q + 4 + d)) (p + (4 * q + 4 + d) / 4) _ (p + q) = _
  rw [up_ne _ _ _ (by omega), pw_done v p b q d]
def n4 (b0 b1 b2 b3 : Int) : Int := b0 + 256 * b1 + 65536 * b2 + 16777216 * b3
theorem pw_four (v : NI) (p : Nat) (b : NI) (hb : ∀ i, 0 ≤ b i ∧ b i < 256) (q : Nat) (h0 : v (p + q) = 0) : pw v p b (4 * q + 4) (p + q) = n4 (b (4 * q)) (b (4 * q + 1)) (b (4 * q + 2)) (b (4 * q + 3)) := by
 have c0 := hb (4 * q)
 have c1 := hb (4 * q + 1)
 have c2 := hb (4 * q + 2)
 have c3 := hb (4 * q + 3)
 have s0 : pw v p b (4 * q) (p + q) = 0 := by rw [pw_no v p b _ _ (fun j hj => by omega), h0]
 have s1 : pw v p b (4 * q + 1) (p + q) = b (4 * q) := by
  unfold pw
  rw [show p + 4 * q / 4 = p + q by omega, up_at, s0, show 4 * q % 4 * 8 = 0 by omega, vo_vl0 _ _ (by omega) (by omega) c0.1 c0.2]
  omega
 have s2 : pw v p b (4 * q + 2) (p + q) = b (4 * q) + 256 * b (4 * q + 1) := by
  show upd (pw v p b (4 * q + 1)) (p + (4 * q + 1) / 4) (vo (pw v p b (4 * q + 1) (p + (4 * q + 1) / 4)) (vl (cv .u32 (b (4 * q + 1))) ((4 * q + 1) % 4 * 8))) (p + q) = _
  rw [show p + (4 * q + 1) / 4 = p + q by omega, up_at, s1, show (4 * q + 1) % 4 * 8 = 8 by omega, vo_vl1 _ _ (by omega) (by omega) c1.1 c1.2]
 have s3 : pw v p b (4 * q + 3) (p + q) = b (4 * q) + 256 * b (4 * q + 1) + 65536 * b (4 * q + 2) := by
  show upd (pw v p b (4 * q + 2)) (p + (4 * q + 2) / 4) (vo (pw v p b (4 * q + 2) (p + (4 * q + 2) / 4)) (vl (cv .u32 (b (4 * q + 2))) ((4 * q + 2) % 4 * 8))) (p + q) = _
  rw [show p + (4 * q + 2) / 4 = p + q by omega, up_at, s2, show (4 * q + 2) % 4 * 8 = 16 by omega, vo_vl2 _ _ (by omega) (by omega) c2.1 c2.2]
 show upd (pw v p b (4 * q + 3)) (p + (4 * q + 3) / 4) (vo (pw v p b (4 * q + 3) (p + (4 * q + 3) / 4)) (vl (cv .u32 (b (4 * q + 3))) ((4 * q + 3) % 4 * 8))) (p + q) = _
 rw [show p + (4 * q + 3) / 4 = p + q by omega, up_at, s3, show (4 * q + 3) % 4 * 8 = 24 by omega, vo_vl3 _ _ (by omega) (by omega) c3.1 c3.2]
 rfl
theorem pw_word (v : NI) (p : Nat) (b : NI) (hb : ∀ i, 0 ≤ b i ∧ b i < 256) (m q : Nat) (hq : 4 * q + 4 ≤ m) (h0 : v (p + q) = 0) : pw v p b m (p + q) = n4 (b (4 * q)) (b (4 * q + 1)) (b (4 * q + 2)) (b (4 * q + 3)) := by
 obtain ⟨d, rfl⟩ : ∃ d, m = 4 * q + 4 + d := ⟨m - (4 * q + 4), by omega⟩
 rw [pw_done, pw_four v p b hb q h0]
theorem wd4_n4 (s : Yb) : wd4 s = n4 (bt s 0) (bt s 1) (bt s 2) (bt s 3) := by
 have c0 := bt_nn s 0
 have c1 := bt_nn s 1
 have c2 := bt_nn s 2
 have c3 := bt_nn s 3
 unfold wd4
 rw [cv32 (bt s 0) c0.1 c0.2, vo_vl1 _ _ c0.1 c0.2 c1.1 c1.2, vo_vl2 _ _ (by omega) (by omega) c2.1 c2.2, vo_vl3 _ _ (by omega) (by omega) c3.1 c3.2]
 rfl
theorem bt_sub (s : Yb) (p q j : Nat) (hj : j < q - p) (hq : q ≤ s.size) : bt (s.extract p q) j = bt s (p + j) := by
 unfold bt
 rw [ByteArray.data_extract, Array.getElem?_extract, if_pos (by show j < min q s.data.size - p; have : s.size = s.data.size := rfl; omega)]
theorem dx_at (al : Yb) : ∀ n, ∀ i, i < n → dx al n i = wd4 (al.extract (4 * i) (4 * i + 4))
 | 0, i, h => absurd h (by omega)
 | n + 1, i, h => by
  unfold dx upd
  by_cases e : i = n
  ·rw [if_pos e, e]
  ·rw [if_neg e, dx_at al n i (by omega)]
theorem dx_out (al : Yb) : ∀ n, ∀ i, n ≤ i → dx al n i = 0
 | 0, _, _ => rfl
 | n + 1, i, h => by
  unfold dx
  rw [up_ne _ _ _ (by omega), dx_out al n i (by omega)]
theorem dx_n4 (al : Yb) (ha : al.size = 64) (i : Nat) (hi : i < 16) : dx al 16 i = n4 (bt al (4 * i)) (bt al (4 * i + 1)) (bt al (4 * i + 2)) (bt al (4 * i + 3)) := by
 rw [dx_at al 16 i hi, wd4_n4, bt_sub _ _ _ _ (by omega) (by omega), bt_sub _ _ _ _ (by omega) (by omega), bt_sub _ _ _ _ (by omega) (by omega), bt_sub _ _ _ _ (by omega) (by omega), Nat.add_zero]
theorem bt_left (a b : Yb) (i : Nat) (h : i < a.size) : bt (a ++ b) i = bt a i := by
 unfold bt
 rw [ByteArray.data_append, Array.getElem?_append_left h]
theorem bt_right (a b : Yb) (i : Nat) (h : a.size ≤ i) : bt (a ++ b) i = bt b (i - a.size) := by
 unfold bt
 rw [ByteArray.data_append, Array.getElem?_append_right h]
 rfl
theorem bt_bs (l : List Int) (h : ∀ x ∈ l, 0 ≤ x ∧ x < 256) (i : Nat) : bt (bs l) i = l.getD i 0 := by rw [bt_of_sb, sb_bs l h]
theorem nb_n4 (n : Int) (h0 : 0 ≤ n) (h1 : n < 4294967296) : n4 (nb n 0) (nb n 1) (nb n 2) (nb n 3) = n := by
 obtain ⟨m, rfl⟩ : ∃ m : Nat, n = (m : Int) := ⟨n.toNat, by omega⟩
 have hc : ∀ k : Nat, cv .u8 (k : Int) = ((k % 256 : Nat) : Int) := fun k => by
  unfold cv
  simp [IntKind.wrap, IntKind.signed, IntKind.bits]
 have hs : ∀ k : Nat, sr (m : Int) k = ((m / 2 ^ k : Nat) : Int) := fun k => by
  unfold sr
  rw [Int.fdiv_eq_ediv_of_nonneg _ (by exact Int.le_of_lt (Int.pow_pos (by decide)))]
  simp
 show n4 (cv .u8 (m : Int)) (cv .u8 (sr (m : Int) 8)) (cv .u8 (sr (m : Int) 16)) (cv .u8 (sr (m : Int) 24)) = _
 rw [hs, hs, hs, hc, hc, hc, hc]
 unfold n4
 omega
def fw0 (key nonce : Yb) : Nat → Int := pw (f2 key) 13 (bt nonce) nonce.size
theorem pw_upd (v : NI) (x : Int) (b : NI) : ∀ m, pw (upd v 12 x) 13 b m = upd (pw v 13 b m) 12 x
 | 0 => rfl
 | m + 1 => by
  unfold pw
  rw [pw_upd v x b m, up_ne _ _ _ (by omega : 13 + m / 4 ≠ 12), up_comm _ (by omega)]
theorem fw_eq (key nonce : Yb) (n : Int) : fw key nonce n = upd (fw0 key nonce) 12 n := pw_upd _ _ _ _
theorem f1_at (q : Nat) (hq : q < 4) : f1 q = n4 (bt strK (4 * q)) (bt strK (4 * q + 1)) (bt strK (4 * q + 2)) (bt strK (4 * q + 3)) := by
 have h := pw_word (fun _ => 0) 0 (bt strK) (bt_nn strK) 16 q (by omega) rfl
 rw [Nat.zero_add] at h
 exact h
theorem f1_out (t : Nat) (ht : 4 ≤ t) : f1 t = 0 := pw_no (fun _ => 0) 0 (bt strK) t 16 (fun j hj => by omega)
theorem al_1 (key nonce : Yb) (n : Int) (hk : key.size = 32) (i : Nat) (h : i < 16) : bt (alS key nonce n) i = bt strK i := by
 have e1 : (strK ++ key).size = 48 := by rw [ByteArray.size_append, strK_size, hk]
 have e2 : (strK ++ key ++ nB n).size = 52 := by rw [ByteArray.size_append, e1, nB_size]
 unfold alS
 rw [bt_left _ _ _ (by omega), bt_left _ _ _ (by omega), bt_left _ _ _ (by rw [strK_size]; omega)]
theorem al_2 (key nonce : Yb) (n : Int) (hk : key.size = 32) (i : Nat) (h : 16 ≤ i) (h' : i < 48) : bt (alS key nonce n) i = bt key (i - 16) := by
 have e1 : (strK ++ key).size = 48 := by rw [ByteArray.size_append, strK_size, hk]
 have e2 : (strK ++ key ++ nB n).size = 52 := by rw [ByteArray.size_append, e1, nB_size]
 unfold alS
 rw [bt_left _ _ _ (by omega), bt_left _ _ _ (by omega), bt_right _ _ _ (by rw [strK_size]; omega), strK_size]
theorem al_3 (key nonce : Yb) (n : Int) (hk : key.size = 32) (i : Nat) (h : 48 ≤ i) (h' : i < 52) : bt (alS key nonce n) i = ((List.range 4).map (nb n)).getD (i - 48) 0 := by
 have e1 : (strK ++ key).size = 48 := by rw [ByteArray.size_append, strK_size, hk]
 have e2 : (strK ++ key ++ nB n).size = 52 := by rw [ByteArray.size_append, e1, nB_size]
 unfold alS
 rw [bt_left _ _ _ (by omega), bt_right _ _ _ (by omega), e1]
 unfold nB
 rw [bt_bs _ (nb_nn n)]
theorem al_4 (key nonce : Yb) (n : Int) (hk : key.size = 32) (i : Nat) (h : 52 ≤ i) : bt (alS key nonce n) i = bt nonce (i - 52) := by
 have e1 : (strK ++ key).size = 48 := by rw [ByteArray.size_append, strK_size, hk]
 have e2 : (strK ++ key ++ nB n).size = 52 := by rw [ByteArray.size_append, e1, nB_size]
 unfold alS
 rw [bt_right _ _ _ (by omega), e2]
theorem n4_congr {a b c d a' b' c' d' : Int} (h1 : a = a') (h2 : b = b') (h3 : c = c') (h4 : d = d') : n4 a b c d = n4 a' b' c' d' := by rw [h1, h2, h3, h4]
theorem fw_dx (key nonce : Yb) (n : Int) (hk : key.size = 32) (hn : nonce.size = 12) (h0 : 0 ≤ n) (h1 : n < 4294967296) : fw key nonce n = dx (alS key nonce n) 16 := by
 funext t
 rw [fw_eq]
 by_cases h16 : t < 16
 ·rw [dx_n4 _ (alS_size key nonce n hk hn) t h16]
  by_cases c13 : 13 ≤ t
  ·obtain ⟨q, rfl⟩ : ∃ q, t = 13 + q := ⟨t - 13, by omega⟩
   rw [up_ne _ _ _ (by omega)]
   unfold fw0
   rw [pw_word (f2 key) 13 (bt nonce) (bt_nn nonce) nonce.size q (by omega) (by unfold f2; rw [pw_no _ _ _ _ _ (fun j hj => by omega), f1_out _ (by omega)])]
   rw [al_4 key nonce n hk (4 * (13 + q)) (by omega), al_4 key nonce n hk (4 * (13 + q) + 1) (by omega), al_4 key nonce n hk (4 * (13 + q) + 2) (by omega), al_4 key nonce n hk (4 * (13 + q) + 3) (by omega)]
   refine n4_congr ?_ ?_ ?_ ?_ <;> congr 1 <;> omega
  ·by_cases c12 : t = 12
   ·subst c12
    rw [up_at]
    rw [al_3 key nonce n hk (4 * 12) (by omega) (by omega), al_3 key nonce n hk (4 * 12 + 1) (by omega) (by omega), al_3 key nonce n hk (4 * 12 + 2) (by omega) (by omega), al_3 key nonce n hk (4 * 12 + 3) (by omega) (by omega)]
    exact (nb_n4 n h0 h1).symm
   ·rw [up_ne _ _ _ c12]
    unfold fw0
    rw [pw_no _ _ _ _ _ (fun j hj => by omega)]
    by_cases c4 : 4 ≤ t
    ·obtain ⟨q, rfl⟩ : ∃ q, t = 4 + q := ⟨t - 4, by omega⟩
     unfold f2
     rw [pw_word f1 4 (bt key) (bt_nn key) key.size q (by omega) (f1_out _ (by omega))]
     rw [al_2 key nonce n hk (4 * (4 + q)) (by omega) (by omega), al_2 key nonce n hk (4 * (4 + q) + 1) (by omega) (by omega), al_2 key nonce n hk (4 * (4 + q) + 2) (by omega) (by omega), al_2 key nonce n hk (4 * (4 + q) + 3) (by omega) (by omega)]
     refine n4_congr ?_ ?_ ?_ ?_ <;> congr 1 <;> omega
    ·unfold f2
     rw [pw_no _ _ _ _ _ (fun j hj => by omega), f1_at t (by omega)]
     rw [al_1 key nonce n hk (4 * t) (by omega), al_1 key nonce n hk (4 * t + 1) (by omega), al_1 key nonce n hk (4 * t + 2) (by omega), al_1 key nonce n hk (4 * t + 3) (by omega)]
 ·rw [dx_out _ _ _ (by omega), up_ne _ _ _ (by omega)]
  unfold fw0
  rw [pw_no _ _ _ _ _ (fun j hj => by omega)]
  unfold f2
  rw [pw_no _ _ _ _ _ (fun j hj => by omega), f1_out _ (by omega)]
theorem ot_map (f : NI) (s : Yb) : ∀ n, ot f s n = (List.range n).map fun i => UInt8.ofNat (ob f s i).toNat
 | 0 => rfl
 | n + 1 => by
  unfold ot
  rw [ot_map f s n, List.range_succ, List.map_append]
  rfl
theorem oS_bs (f : NI) (s : Yb) : oS f s = bs ((List.range s.size).map (ob f s)) := by
 unfold oS bs
 rw [ot_map, List.map_map]
 rfl
theorem oS_size (f : NI) (s : Yb) : (oS f s).size = s.size := by
 rw [oS_bs, bs_size]
 simp
end Go.Proofs.YtffimigpbcilbaaGreatDoor
