/- Part 6 of the walks and facts. -/
import Derived.Test.YtenafinbaanicaaGreatDoorPs5
set_option maxHeartbeats 16000000
set_option maxRecDepth 100000
set_option linter.unusedSimpArgs false
set_option linter.unusedVariables false
namespace Go.Proofs.YtenafinbaanicaaGreatDoor
open Go.RowKit
def kl (g : Nat → Bool) : Nat → List Nat
 | 0 => []
 | n + 1 => if g n = true then kl g n else kl g n ++ [n]
theorem kl_lt (g : Nat → Bool) : ∀ n, ∀ i ∈ kl g n, i < n
 | 0, i, h => by cases h
 | n + 1, i, h => by
  unfold kl at h
  split at h
  ·have := kl_lt g n i h
   omega
  ·rcases List.mem_append.1 h with h | h
   ·have := kl_lt g n i h
    omega
   ·rw [List.mem_singleton.1 h]
    omega
theorem kl_nodup (g : Nat → Bool) : ∀ n, (kl g n).Nodup
 | 0 => List.nodup_nil
 | n + 1 => by
  unfold kl
  split
  ·exact kl_nodup g n
  ·refine List.nodup_append.2 ⟨kl_nodup g n, List.nodup_cons.2 ⟨by simp, List.nodup_nil⟩, fun a ha b hb => ?_⟩
   have h1 := kl_lt g n a ha
   rw [List.mem_singleton.1 hb]
   omega
theorem kp_map (g : Nat → Bool) (S : List Sl) : ∀ n, kp g S n = (kl g n).map fun j => ⟨sI S j, sJ S j⟩
 | 0 => rfl
 | n + 1 => by
  unfold kp kl
  rw [kp_map g S n]
  split
  ·rfl
  ·rw [List.map_append]
   rfl
theorem kp_at {g : Nat → Bool} {S : List Sl} {n j : Nat} (h : j < (kl g n).length) : sI (kp g S n) j = sI S ((kl g n).getD j 0) ∧ sJ (kp g S n) j = sJ S ((kl g n).getD j 0) := by
 have e : (kp g S n)[j]? = some ⟨sI S ((kl g n).getD j 0), sJ S ((kl g n).getD j 0)⟩ := by
  rw [kp_map, List.getElem?_map, List.getD_eq_getElem?_getD, List.getElem?_eq_getElem h]
  rfl
 exact sI_of e
theorem kp_length (g : Nat → Bool) (S : List Sl) (n : Nat) : (kp g S n).length = (kl g n).length := by rw [kp_map, List.length_map]
theorem kl_at {g : Nat → Bool} {n j : Nat} (h : j < (kl g n).length) : (kl g n).getD j 0 < n := by
 rw [List.getD_eq_getElem?_getD, List.getElem?_eq_getElem h]
 exact kl_lt g n _ (List.getElem_mem h)
theorem kl_inj {g : Nat → Bool} {n i j : Nat} (hi : i < (kl g n).length) (hj : j < (kl g n).length) (h : (kl g n).getD i 0 = (kl g n).getD j 0) : i = j := by
 rw [List.getD_eq_getElem?_getD, List.getElem?_eq_getElem hi, List.getD_eq_getElem?_getD, List.getElem?_eq_getElem hj] at h
 exact (List.getElem_inj (kl_nodup g n)).1 h
section
variable {SP SQ : List Sl} {K tp dp : Nat → Nat} {N c : Nat} {Y : Nat → TS}
theorem Jt.more (h : Jt SP SQ K N tp dp Y c) : Jt SP SQ K N tp dp Y (c + 1) := ⟨h.len, h.l3, h.ids, h.kP, h.kQ, h.dist, fun k hk => ⟨(h.dk k hk).1, Nat.le_succ_of_le (h.dk k hk).2⟩, Nat.le_succ_of_le h.nN⟩
theorem Jt.keep (h : Jt SP SQ K N tp dp Y c) (g : Nat → Bool) : Jt (kp g SP SP.length) (kp g SQ SQ.length) (fun j => K ((kl g SP.length).getD j 0)) N tp dp Y c := by
 rw [h.len]
 have l1 := kp_length g SP SP.length
 have l2 := kp_length g SQ SP.length
 have l4 : (kl g SP.length).length ≤ SP.length := by rw [← l1]; exact kp_len g SP _
 refine ⟨by rw [l1, l2], by have := h.l3; omega, fun j hj => ?_, fun j hj => ?_, fun j hj => ?_, fun i j hi hj e => ?_, h.dk, h.nN⟩
 ·rw [l1] at hj
  rw [(kp_at hj).1, (kp_at hj).1]
  exact h.ids _ (kl_at hj)
 ·rw [l1] at hj
  rw [(kp_at hj).2]
  exact h.kP _ (kl_at hj)
 ·rw [l2] at hj
  rw [(kp_at hj).2]
  exact h.kQ _ (by rw [h.len]; exact kl_at hj)
 ·rw [l1] at hi hj
  rw [(kp_at hi).1, (kp_at hj).1] at e
  exact kl_inj hi hj (h.dist _ _ (kl_at hi) (kl_at hj) e)
theorem Jt.turn (h : Jt SP SQ K N tp dp Y c) {k : Nat} {y : TS} (hy : y.Dk) (hq : y.q.length ≤ c + 1) : Jt SP SQ K N tp dp (upd Y k y) (c + 1) := ⟨h.len, h.l3, h.ids, h.kP, h.kQ, h.dist, fun i hi => by
 by_cases e : i = k
 ·subst e
  rw [upd_self]
  exact ⟨hy, hq⟩
 ·rw [upd_other _ _ e]
  exact ⟨(h.dk i hi).1, Nat.le_succ_of_le (h.dk i hi).2⟩, Nat.le_succ_of_le h.nN⟩
theorem Jt.make (h : Jt SP SQ K N tp dp Y c) {t d : Nat} {y : TS} (hy : y.Dk) (hq : y.q.length ≤ c + 1) : Jt SP SQ K (N + 1) (upd tp N t) (upd dp N d) (upd Y N y) (c + 1) := ⟨h.len, h.l3, h.ids, fun j hj => by
  have := h.kP j hj
  rw [upd_other _ _ (by omega)]
  exact ⟨by omega, this.2⟩, fun j hj => by
  have := h.kQ j hj
  rw [upd_other _ _ (by omega)]
  exact ⟨by omega, this.2⟩, h.dist, fun i hi => by
 by_cases e : i = N
 ·subst e
  rw [upd_self]
  exact ⟨hy, hq⟩
 ·rw [upd_other _ _ e]
  exact ⟨(h.dk i (by omega)).1, Nat.le_succ_of_le (h.dk i (by omega)).2⟩, Nat.succ_le_succ h.nN⟩
theorem Jt.put (h : Jt SP SQ K N tp dp Y c) {m id : Nat} (hm : m < N) (hid : ∀ j, j < SP.length → ¬ sI SP j = id) (h3 : SP.length < 3) : Jt (SP ++ [⟨id, tp m⟩]) (SQ ++ [⟨id, dp m⟩]) (upd K SP.length m) N tp dp Y c := by
 have l1 : (SP ++ [(⟨id, tp m⟩ : Sl)]).length = SP.length + 1 := by rw [List.length_append]; rfl
 have l2 : (SQ ++ [(⟨id, dp m⟩ : Sl)]).length = SP.length + 1 := by rw [List.length_append, h.len]; rfl
 refine ⟨by rw [l1, l2], by omega, fun j hj => ?_, hK_next h.kP hm, ?_, dist_next h.dist hid, h.dk, h.nN⟩
 ·by_cases e : j = SP.length
  ·subst e
   rw [(sI_end SP _).1]
   have := (sI_end SQ ⟨id, dp m⟩).1
   rw [h.len] at this
   exact this
  ·rw [(sI_lt (show j < SP.length by omega)).1, (sI_lt (show j < SQ.length by rw [h.len]; omega)).1]
   exact h.ids j (by omega)
 ·have := hK_next (id := id) h.kQ hm
  rw [h.len] at this
  exact this
theorem sI_drop (S : List Sl) (j : Nat) : sI (S.drop 1) j = sI S (j + 1) ∧ sJ (S.drop 1) j = sJ S (j + 1) := by
 unfold sI sJ
 simp only [List.getD_eq_getElem?_getD, List.getElem?_drop]
 rw [Nat.add_comm 1 j]
 exact ⟨rfl, rfl⟩
theorem Jt.puts (h : Jt SP SQ K N tp dp Y c) {m id : Nat} (hm : m < N) (hid : ∀ j, j < SP.length → ¬ sI SP j = id) (h3 : SP.length = 3) : Jt ((SP ++ [(⟨id, tp m⟩ : Sl)]).drop 1) ((SQ ++ [(⟨id, dp m⟩ : Sl)]).drop 1) (fun j => upd K SP.length m (j + 1)) N tp dp Y c := by
 have l1 : (SP ++ [(⟨id, tp m⟩ : Sl)]).length = SP.length + 1 := by rw [List.length_append]; rfl
 have l2 : (SQ ++ [(⟨id, dp m⟩ : Sl)]).length = SP.length + 1 := by rw [List.length_append, h.len]; rfl
 have d1 : ((SP ++ [(⟨id, tp m⟩ : Sl)]).drop 1).length = SP.length := by rw [List.length_drop, l1]; omega
 have d2 : ((SQ ++ [(⟨id, dp m⟩ : Sl)]).drop 1).length = SP.length := by rw [List.length_drop, l2]; omega
 have hk1 := hK_next (id := id) h.kP hm
 have hk2 := hK_next (id := id) h.kQ hm
 rw [h.len] at hk2
 have hdd := dist_next (id := id) (t := tp m) h.dist hid
 refine ⟨by rw [d1, d2], by omega, fun j hj => ?_, fun j hj => ?_, fun j hj => ?_, fun i j hi hj e => ?_, h.dk, h.nN⟩
 ·rw [d1] at hj
  rw [(sI_drop _ j).1, (sI_drop _ j).1]
  by_cases e : j + 1 = SP.length
  ·rw [e, (sI_end SP _).1]
   have := (sI_end SQ ⟨id, dp m⟩).1
   rw [h.len] at this
   exact this
  ·rw [(sI_lt (show j + 1 < SP.length by omega)).1, (sI_lt (show j + 1 < SQ.length by rw [h.len]; omega)).1]
   exact h.ids _ (by omega)
 ·rw [(sI_drop _ j).2]
  exact hk1 (j + 1) (by omega)
 ·rw [(sI_drop _ j).2]
  exact hk2 (j + 1) (by omega)
 ·rw [(sI_drop _ i).1, (sI_drop _ j).1] at e
  have := hdd (i + 1) (j + 1) (by omega) (by omega) e
  omega
end
theorem slw1_at {f : Nat → Nat} {N : Nat} {v : Value} {T : List Blk} (h : SlW 1 (vT f N) N v T) : ∃ l b k, v = .slice l N k ∧ (0 < N → l = some ⟨b, 0, none⟩) ∧ ∀ w, There w T → ∀ j, j < N → w.cell? ⟨b, 0 + j * 1, none⟩ = some (.pointer (some ⟨f j, 0, none⟩)) := by
 rcases h.ex with ⟨h0, rfl, rfl⟩ | ⟨g, cap, Z, rfl, hc, hs, rfl⟩
 ·subst h0
  exact ⟨none, 0, 0, rfl, fun h => absurd h (by omega), fun w _ j hj => absurd hj (by omega)⟩
 ·exact ⟨_, g, cap, rfl, fun _ => rfl, fun w hT j hj => hs.cell (hT.at_ ⟨g, Z⟩ List.mem_cons_self) (vT_at f hj)⟩
theorem a_at {z gs gr N : Nat} {SQ : List Sl} {tp dp : Nat → Nat} {Y : Nat → TS} {gn : Nat → Bool} {G H Tt Tx : List Blk} {tv xv : Value} (hH : IsQS gr SQ N dp Y gn H) (ht : SlW 1 (vT tp N) N tv Tt) (hx : SlW 1 (vT dp N) N xv Tx) (hn : N < 10000) {i : Nat} (hi : i < N) (w : World) (hL : Laid w) (hT : There w (⟨z, .cells (av 4 (ls [.pointer (some ⟨gs, 0, none⟩), .pointer (some ⟨gr, 0, none⟩), tv, xv])) 65⟩ :: (G ++ (H ++ (Tt ++ Tx))))) : Cs 36 #[.pointer (some ⟨z, 0, none⟩), .pointer (some ⟨tp i, 0, none⟩), .pointer (some ⟨dp i, 0, none⟩)] w (.bool true) := by
 obtain ⟨l1, b1, k1, rfl, hl1, hc1⟩ := slw1_at ht
 obtain ⟨l2, b2, k2, rfl, hl2, hc2⟩ := slw1_at hx
 have h0 := hT.at_ _ List.mem_cons_self
 have hT1 : There w (H ++ (Tt ++ Tx)) := hT.sub ((List.sublist_append_right G _).cons _)
 have hH1 : There w H := hT1.sub (List.sublist_append_left H _)
 have hT2 : There w (Tt ++ Tx) := hT1.sub (List.sublist_append_right H _)
 obtain ⟨b, T, A, rfl, hA, -⟩ := h_row hH
 have hA1 := hH1.sub (sub2 b T A)
 exact c_at (X := dp) (Y := tp) (i := i) hl2 hl1 (by omega) hi (fun j hj => q_apart hA hA1 (by omega) hi (by omega)) w hL (cell_av h0 (by decide)) (cell_av h0 (by decide)) (hc2 w (hT2.sub (List.sublist_append_right Tt Tx))) (hc1 w (hT2.sub (List.sublist_append_left Tt Tx))) fun j hj => (q_cells hA hj hA1).2.2.2.2
open Go.RowKit
abbrev zO (z gs gr : Nat) (tv xv : Value) : Blk := ⟨z, .cells (av 4 (ls [.pointer (some ⟨gs, 0, none⟩), .pointer (some ⟨gr, 0, none⟩), tv, xv])) 65⟩
abbrev lR (rc ct rk lf : Nat) (zz : Int) : List Value := [.int .u64 (rc : Int), .int .u64 (ct : Int), .int .u64 (rk : Int), .int .u64 (lf : Int), .int .i64 zz]
abbrev lB (g rc ct rk lf : Nat) (zz : Int) : Blk := ⟨g, .cells (av 5 (ls (lR rc ct rk lf zz))) 26⟩
abbrev sR_ (dd : Int) (id : Nat) (fi : Bool) (nw : Nat) : List Value := [.int .i64 dd, .int .u32 (id : Int), .bool (fi), .int .u64 (nw : Int)]
abbrev sB (g : Nat) (dd : Int) (id : Nat) (fi : Bool) (nw : Nat) : Blk := ⟨g, .cells (av 4 (ls (sR_ dd id fi nw))) 69⟩
abbrev gB (g : Nat) (sv : Value) : Blk := ⟨g, .cells (av 1 (ls [sv])) 61⟩
abbrev pB (g p t : Nat) : Blk := ⟨g, .cells (av 1 (ls [.pointer (some ⟨p, 0, none⟩)])) t⟩
abbrev zX (w : World) (z gs gr : Nat) (tv xv : Value) (L : List Blk) : Ctx := ⟨w, (zO z gs gr tv xv :: L).map Blk.g⟩
theorem d_1N {z c gs gr N : Nat} {SP SQ : List Sl} {K tp dp : Nat → Nat} {Y : Nat → TS} {gn : Nat → Bool} {G H Tt Tx : List Blk} {tv xv : Value} (hG : IsPS gs SP N tp (fun k => pX (Y k) (gn k)) G) (hH : IsQS gr SQ N dp Y gn H) (htv : SlW 1 (vT tp N) N tv Tt) (hxv : SlW 1 (vT dp N) N xv Tx) (hj : Jt SP SQ K N tp dp Y c) {rc ct rk lf id nw : Nat} {zz : Int} {fi : Bool} (hx : (ix (fun j => decide (sI SQ j = id)) SQ.length) = -1) (hno : ∀ j, j < SP.length → ¬ sI SP j = id) (w : World) (hL : Laid w)  (hT : There w (zO z gs gr tv xv :: (G ++ (H ++ (Tt ++ Tx))))) : Calls Tryz.prog 17 #[.pointer (some ⟨z, 0, none⟩), .agg (av 5 (ls (lR rc ct rk lf zz))), .agg (av 4 (ls (sR_ 1 id fi nw)))] w fun r w' => ∃ Z', r = .returned (.bool true) ∧ IsJ z (c + 1) Z' ∧ OkT w w' (zO z gs gr tv xv :: (G ++ (H ++ (Tt ++ Tx)))) Z' := by
 go_enter Tryz.func17, Tryz.ntmps17
 have M : Mem (zX w z gs gr tv xv (G ++ (H ++ (Tt ++ Tx)))) (zO z gs gr tv xv :: (G ++ (H ++ (Tt ++ Tx)))) w := Mem.startT hL hT
 obtain ⟨lQ, bQ, kQ, hlQ, hcQ⟩ := h_look hH
 have hl3 := hj.l3
 have hlen := hj.len
 refine sR ?_
 refine pN M 4 (.cells (av 5 (ls (lR rc ct rk lf zz))) 26) fun g1 u1 M => ?_
 replace M := M.front
 replace M : Mem (zX w z gs gr tv xv (G ++ (H ++ (Tt ++ Tx)))) (lB g1 rc ct rk lf zz :: zO z gs gr tv xv :: (G ++ (H ++ (Tt ++ Tx)))) u1 := M
 refine pN M 5 (.cells (av 4 (ls (sR_ 1 id fi nw))) 69) fun g2 u2 M => ?_
 replace M := M.front
 replace M : Mem (zX w z gs gr tv xv (G ++ (H ++ (Tt ++ Tx)))) (sB g2 1 id fi nw :: lB g1 rc ct rk lf zz :: zO z gs gr tv xv :: (G ++ (H ++ (Tt ++ Tx)))) u2 := M
 refine rV 1 <| nT <| wp_seq ?_
 refine rg_held M (sB g2 1 id fi nw :: lB g1 rc ct rk lf zz :: zO z gs gr tv xv :: (G ++ (H ++ (Tt ++ Tx)))) 7 rfl (by kernel_rfl) (by kernel_rfl) (fun _ _ d _ _ h => by cases d <;> exact h) fun u3 M => ?_
 replace M : Mem (zX w z gs gr tv xv (G ++ (H ++ (Tt ++ Tx)))) (sB g2 1 id fi nw :: lB g1 rc ct rk lf zz :: zO z gs gr tv xv :: (G ++ (H ++ (Tt ++ Tx)))) u3 := M
 refine qV M 0 36 (.pointer (some ⟨z, 0, none⟩)) ?_
 refine qV M 1 37 (.pointer (some ⟨z, 0, none⟩)) ?_
 refine qV M 2 38 (.pointer (some ⟨z, 1, none⟩)) ?_
 refine hl_cell M 3 rfl (by decide) (by kernel_rfl) (by kernel_rfl) (want_no rfl) (some 39) rfl 58 _ rfl z 1 (by kernel_rfl) (.pointer (some ⟨gr, 0, none⟩)) (fun _ => by kernel_rfl) (fun w M => M.cell 2 rfl (by decide) rfl) ?_
 refine qV M 4 40 (.pointer (some ⟨g2, 1, none⟩)) ?_
 refine hl_cell M 5 rfl (by decide) (by kernel_rfl) (by kernel_rfl) (want_no rfl) (some 41) rfl 67 _ rfl g2 1 (by kernel_rfl) (.int .u32 (id : Int)) (fun _ => by kernel_rfl) (fun w M => M.cell 0 rfl (by decide) rfl) ?_
 refine hl_one 6 (by decide) (by kernel_rfl) rfl ?_
 refine pC M 42 34 #[.pointer (some ⟨gr, 0, none⟩), .int .u32 (id : Int)] (.int .i64 (-1)) (fun w M => call_val (h_Find hH (by omega) w M.laid (M.thereM (pre := (sB g2 1 id fi nw :: lB g1 rc ct rk lf zz :: zO z gs gr tv xv :: G)) (T := H) (suf := (Tt ++ Tx)) (by simp only [List.append_assoc, List.cons_append, List.nil_append, List.append_nil]))) (by rw [hx])) fun u4 M => ?_
 refine nT ?_
 refine ⟨M, ?_⟩
 refine hl_end (by kernel_rfl) (by kernel_rfl) rfl ?_
 refine rV 1 <| nT <| au_then <| wp_seq <| sR ?_
 refine rV 1 <| ZE M 44 0 0 <| nT ?_
 refine wp_block ?_
 refine sq <| cT <| wp_seq ?_
 refine rg_held M (sB g2 1 id fi nw :: lB g1 rc ct rk lf zz :: zO z gs gr tv xv :: (G ++ (H ++ (Tt ++ Tx)))) 11 rfl (by kernel_rfl) (by kernel_rfl) (fun _ _ d _ _ h => by cases d <;> exact h) fun u5 M => ?_
 replace M : Mem (zX w z gs gr tv xv (G ++ (H ++ (Tt ++ Tx)))) (sB g2 1 id fi nw :: lB g1 rc ct rk lf zz :: zO z gs gr tv xv :: (G ++ (H ++ (Tt ++ Tx)))) u5 := M
 refine qV M 0 48 (.pointer (some ⟨z, 0, none⟩)) ?_
 refine qV M 1 49 (.pointer (some ⟨z, 0, none⟩)) ?_
 refine qV M 2 50 (.pointer (some ⟨z, 0, none⟩)) ?_
 refine hl_cell M 3 rfl (by decide) (by kernel_rfl) (by kernel_rfl) (want_no rfl) (some 51) rfl 56 _ rfl z 0 (by kernel_rfl) (.pointer (some ⟨gs, 0, none⟩)) (fun _ => by kernel_rfl) (fun w M => M.cell 2 rfl (by decide) rfl) ?_
 refine qV M 4 52 (.pointer (some ⟨g2, 1, none⟩)) ?_
 refine hl_cell M 5 rfl (by decide) (by kernel_rfl) (by kernel_rfl) (want_no rfl) (some 53) rfl 67 _ rfl g2 1 (by kernel_rfl) (.int .u32 (id : Int)) (fun _ => by kernel_rfl) (fun w M => M.cell 0 rfl (by decide) rfl) ?_
 refine hl_one 6 (by decide) (by kernel_rfl) rfl ?_
 refine pC M 54 35 #[.pointer (some ⟨gs, 0, none⟩), .int .u32 (id : Int)] (.tuple #[.pointer none, .int .i64 5]) (fun w M => g_Get0 hG (by omega) hno w M.laid (M.thereM (pre := [sB g2 1 id fi nw, lB g1 rc ct rk lf zz, zO z gs gr tv xv]) (T := G) (suf := (H ++ (Tt ++ Tx))) (by simp only [List.append_assoc, List.cons_append, List.nil_append, List.append_nil]))) fun u6 M => ?_
 refine nT ?_
 refine ⟨M, ?_⟩
 refine qV M 7 47 (.tuple #[.pointer none, .int .i64 5]) ?_
 refine qV M 8 55 (.pointer none) ?_
 refine qV M 9 56 (.int .i64 5) ?_
 refine qV M 10 8 (.pointer none) ?_
 refine hl_end (by kernel_rfl) (by kernel_rfl) rfl ?_
 refine rV 1 <| nT <| au_then <| wp_seq <| sq ?_
 refine cT <| sq <| wp_ret <| au_then_ret ?_
 refine au_block_ret ?_
 refine au_then_ret ?_
 exact bodyPost_ret (v := .bool true) (results_tmp1 Tryz.results17 _ _ _ (by kernel_rfl)) (by kernel_rfl) ⟨_, rfl, ⟨gs, gr, SP, SQ, N, K, tp, dp, Y, gn, G, H, tv, Tt, xv, Tx, rfl, hG, hH, htv, hxv, hj.more⟩, ((M.drop (.cons _ (.cons _ (.cons_cons _ (List.Sublist.refl _)))))).okT0⟩
theorem d_1F {z c gs gr N : Nat} {SP SQ : List Sl} {K tp dp : Nat → Nat} {Y : Nat → TS} {gn : Nat → Bool} {G H Tt Tx : List Blk} {tv xv : Value} (hG : IsPS gs SP N tp (fun k => pX (Y k) (gn k)) G) (hH : IsQS gr SQ N dp Y gn H) (htv : SlW 1 (vT tp N) N tv Tt) (hxv : SlW 1 (vT dp N) N xv Tx) (hj : Jt SP SQ K N tp dp Y c) {rc ct rk lf id nw : Nat} {zz : Int} {fi : Bool} (hc : c < 10000) {i : Nat} (hx : (ix (fun j => decide (sI SQ j = id)) SQ.length) = (i : Int)) (hi : i < SP.length) (hid : sI SP i = id) (h0 : ∀ j, j < i → ¬ sI SP j = id) (w : World) (hL : Laid w)  (hT : There w (zO z gs gr tv xv :: (G ++ (H ++ (Tt ++ Tx))))) : Calls Tryz.prog 17 #[.pointer (some ⟨z, 0, none⟩), .agg (av 5 (ls (lR rc ct rk lf zz))), .agg (av 4 (ls (sR_ 1 id fi nw)))] w fun r w' => ∃ Z', r = .returned (.bool true) ∧ IsJ z (c + 1) Z' ∧ OkT w w' (zO z gs gr tv xv :: (G ++ (H ++ (Tt ++ Tx)))) Z' := by
 go_enter Tryz.func17, Tryz.ntmps17
 have M : Mem (zX w z gs gr tv xv (G ++ (H ++ (Tt ++ Tx)))) (zO z gs gr tv xv :: (G ++ (H ++ (Tt ++ Tx)))) w := Mem.startT hL hT
 obtain ⟨lQ, bQ, kQ, hlQ, hcQ⟩ := h_look hH
 have hl3 := hj.l3
 have hlen := hj.len
 refine sR ?_
 refine pN M 4 (.cells (av 5 (ls (lR rc ct rk lf zz))) 26) fun g1 u1 M => ?_
 replace M := M.front
 replace M : Mem (zX w z gs gr tv xv (G ++ (H ++ (Tt ++ Tx)))) (lB g1 rc ct rk lf zz :: zO z gs gr tv xv :: (G ++ (H ++ (Tt ++ Tx)))) u1 := M
 refine pN M 5 (.cells (av 4 (ls (sR_ 1 id fi nw))) 69) fun g2 u2 M => ?_
 replace M := M.front
 replace M : Mem (zX w z gs gr tv xv (G ++ (H ++ (Tt ++ Tx)))) (sB g2 1 id fi nw :: lB g1 rc ct rk lf zz :: zO z gs gr tv xv :: (G ++ (H ++ (Tt ++ Tx)))) u2 := M
 refine rV 1 <| nT <| wp_seq ?_
 refine rg_held M (sB g2 1 id fi nw :: lB g1 rc ct rk lf zz :: zO z gs gr tv xv :: (G ++ (H ++ (Tt ++ Tx)))) 7 rfl (by kernel_rfl) (by kernel_rfl) (fun _ _ d _ _ h => by cases d <;> exact h) fun u3 M => ?_
 replace M : Mem (zX w z gs gr tv xv (G ++ (H ++ (Tt ++ Tx)))) (sB g2 1 id fi nw :: lB g1 rc ct rk lf zz :: zO z gs gr tv xv :: (G ++ (H ++ (Tt ++ Tx)))) u3 := M
 refine qV M 0 36 (.pointer (some ⟨z, 0, none⟩)) ?_
 refine qV M 1 37 (.pointer (some ⟨z, 0, none⟩)) ?_
 refine qV M 2 38 (.pointer (some ⟨z, 1, none⟩)) ?_
 refine hl_cell M 3 rfl (by decide) (by kernel_rfl) (by kernel_rfl) (want_no rfl) (some 39) rfl 58 _ rfl z 1 (by kernel_rfl) (.pointer (some ⟨gr, 0, none⟩)) (fun _ => by kernel_rfl) (fun w M => M.cell 2 rfl (by decide) rfl) ?_
 refine qV M 4 40 (.pointer (some ⟨g2, 1, none⟩)) ?_
 refine hl_cell M 5 rfl (by decide) (by kernel_rfl) (by kernel_rfl) (want_no rfl) (some 41) rfl 67 _ rfl g2 1 (by kernel_rfl) (.int .u32 (id : Int)) (fun _ => by kernel_rfl) (fun w M => M.cell 0 rfl (by decide) rfl) ?_
 refine hl_one 6 (by decide) (by kernel_rfl) rfl ?_
 refine pC M 42 34 #[.pointer (some ⟨gr, 0, none⟩), .int .u32 (id : Int)] (.int .i64 (i : Int)) (fun w M => call_val (h_Find hH (by omega) w M.laid (M.thereM (pre := (sB g2 1 id fi nw :: lB g1 rc ct rk lf zz :: zO z gs gr tv xv :: G)) (T := H) (suf := (Tt ++ Tx)) (by simp only [List.append_assoc, List.cons_append, List.nil_append, List.append_nil]))) (by rw [hx])) fun u4 M => ?_
 refine nT ?_
 refine ⟨M, ?_⟩
 refine hl_end (by kernel_rfl) (by kernel_rfl) rfl ?_
 refine rV 1 <| nT <| au_then <| wp_seq <| sR ?_
 refine rV 1 <| ZE M 44 0 0 <| nT ?_
 refine wp_block ?_
 refine sq <| cT <| wp_seq ?_
 refine rg_held M (sB g2 1 id fi nw :: lB g1 rc ct rk lf zz :: zO z gs gr tv xv :: (G ++ (H ++ (Tt ++ Tx)))) 11 rfl (by kernel_rfl) (by kernel_rfl) (fun _ _ d _ _ h => by cases d <;> exact h) fun u5 M => ?_
 replace M : Mem (zX w z gs gr tv xv (G ++ (H ++ (Tt ++ Tx)))) (sB g2 1 id fi nw :: lB g1 rc ct rk lf zz :: zO z gs gr tv xv :: (G ++ (H ++ (Tt ++ Tx)))) u5 := M
 refine qV M 0 48 (.pointer (some ⟨z, 0, none⟩)) ?_
 refine qV M 1 49 (.pointer (some ⟨z, 0, none⟩)) ?_
 refine qV M 2 50 (.pointer (some ⟨z, 0, none⟩)) ?_
 refine hl_cell M 3 rfl (by decide) (by kernel_rfl) (by kernel_rfl) (want_no rfl) (some 51) rfl 56 _ rfl z 0 (by kernel_rfl) (.pointer (some ⟨gs, 0, none⟩)) (fun _ => by kernel_rfl) (fun w M => M.cell 2 rfl (by decide) rfl) ?_
 refine qV M 4 52 (.pointer (some ⟨g2, 1, none⟩)) ?_
 refine hl_cell M 5 rfl (by decide) (by kernel_rfl) (by kernel_rfl) (want_no rfl) (some 53) rfl 67 _ rfl g2 1 (by kernel_rfl) (.int .u32 (id : Int)) (fun _ => by kernel_rfl) (fun w M => M.cell 0 rfl (by decide) rfl) ?_
 refine hl_one 6 (by decide) (by kernel_rfl) rfl ?_
 refine pC M 54 35 #[.pointer (some ⟨gs, 0, none⟩), .int .u32 (id : Int)] (.tuple #[.pointer (some ⟨(sJ SP i), 0, none⟩), .int .i64 0]) (fun w M => g_Get1 hG (by omega) hi hid h0 w M.laid (M.thereM (pre := [sB g2 1 id fi nw, lB g1 rc ct rk lf zz, zO z gs gr tv xv]) (T := G) (suf := (H ++ (Tt ++ Tx))) (by simp only [List.append_assoc, List.cons_append, List.nil_append, List.append_nil]))) fun u6 M => ?_
 refine nT ?_
 refine ⟨M, ?_⟩
 refine qV M 7 47 (.tuple #[.pointer (some ⟨(sJ SP i), 0, none⟩), .int .i64 0]) ?_
 refine qV M 8 55 (.pointer (some ⟨(sJ SP i), 0, none⟩)) ?_
 refine qV M 9 56 (.int .i64 0) ?_
 refine qV M 10 8 (.pointer (some ⟨(sJ SP i), 0, none⟩)) ?_
 refine hl_end (by kernel_rfl) (by kernel_rfl) rfl ?_
 refine rV 1 <| nT <| au_then <| wp_seq <| sR ?_
 refine rV 1 ?_
 by_cases c0 : (i : Int) < 0
 ·exfalso; omega
 ·refine pH 58 (.bool false) (jF ((i : Int) < 0) (c0)) ?_
  refine nT <| cF <| wp_skip <| au_then <| sR ?_
  refine rV 8 ?_
  refine pl_cell M (want_on 2 true rfl 67 rfl (by kernel_rfl)) (some 73) rfl 58 _ rfl z 1 (by kernel_rfl) (.pointer (some ⟨gr, 0, none⟩)) (fun _ => by kernel_rfl) (fun w M => M.cell 2 rfl (by decide) rfl) ?_
  refine rV 2 ?_
  refine pl_cell M (want_on 2 true rfl 67 rfl (by kernel_rfl)) (some 76) rfl 59 _ rfl gr 0 (by kernel_rfl) (.slice lQ SQ.length kQ) (fun _ => by kernel_rfl) (fun w M => (hcQ _ (M.thereM (pre := (sB g2 1 id fi nw :: lB g1 rc ct rk lf zz :: zO z gs gr tv xv :: G)) (T := H) (suf := (Tt ++ Tx)) (by simp only [List.append_assoc, List.cons_append, List.nil_append, List.append_nil]))).1) ?_
  refine rV 1 ?_
  refine pl_val (want_on 2 true rfl 67 rfl (by kernel_rfl)) (some 78) rfl (.pointer (some ⟨bQ, (0 + i * 2), none⟩)) (run_ixK 59 72 2 Tryz.underlying59 inz72 _ _ rfl lQ bQ 0 SQ.length kQ (by kernel_rfl) (hlQ (by omega)) .i64 i (by kernel_rfl) (by omega)) ?_
  refine rV 1 ?_
  refine pl_cell M (want_on 2 true rfl 67 rfl (by kernel_rfl)) (some 80) rfl 32 _ rfl bQ ((0 + i * 2) + 1) (by kernel_rfl) (.pointer (some ⟨(sJ SQ i), 0, none⟩)) (fun _ => by kernel_rfl) (fun w M => ((hcQ _ (M.thereM (pre := (sB g2 1 id fi nw :: lB g1 rc ct rk lf zz :: zO z gs gr tv xv :: G)) (T := H) (suf := (Tt ++ Tx)) (by simp only [List.append_assoc, List.cons_append, List.nil_append, List.append_nil]))).2.2 i (by omega))) ?_
  refine pl_call M (want_on 2 true rfl 67 rfl (by kernel_rfl)) (some 81) rfl 36 #[.pointer (some ⟨z, 0, none⟩), .pointer (some ⟨(sJ SP i), 0, none⟩), .pointer (some ⟨(sJ SQ i), 0, none⟩)] (.bool true) (fun _ => by kernel_rfl) (fun w M => by rw [(hj.kP i hi).2, (hj.kQ i (by omega)).2]; exact a_at hH htv hxv (by have := hj.nN; omega) (hj.kP i hi).1 w M.laid (M.thereM (pre := [sB g2 1 id fi nw, lB g1 rc ct rk lf zz]) (T := (zO z gs gr tv xv :: (G ++ (H ++ (Tt ++ Tx))))) (suf := []) (by simp only [List.append_assoc, List.cons_append, List.nil_append, List.append_nil]))) fun u7 M => ?_
  refine rV 2 <| nT <| wp_ret ?_
  refine au_block_ret ?_
  refine au_then_ret ?_
  exact bodyPost_ret (v := .bool true) (results_tmp1 Tryz.results17 _ _ _ (by kernel_rfl)) (by kernel_rfl) ⟨_, rfl, ⟨gs, gr, SP, SQ, N, K, tp, dp, Y, gn, G, H, tv, Tt, xv, Tx, rfl, hG, hH, htv, hxv, hj.more⟩, ((M.drop (.cons _ (.cons _ (.cons_cons _ (List.Sublist.refl _)))))).okT0⟩
theorem d_2N {z c gs gr N : Nat} {SP SQ : List Sl} {K tp dp : Nat → Nat} {Y : Nat → TS} {gn : Nat → Bool} {G H Tt Tx : List Blk} {tv xv : Value} (hG : IsPS gs SP N tp (fun k => pX (Y k) (gn k)) G) (hH : IsQS gr SQ N dp Y gn H) (htv : SlW 1 (vT tp N) N tv Tt) (hxv : SlW 1 (vT dp N) N xv Tx) (hj : Jt SP SQ K N tp dp Y c) {rc ct rk lf id nw : Nat} {zz : Int} {fi : Bool} (hnw : nw < 18446744073709551616) (hb : (lx (fun j => (Y (K j)).su && (!(pX (Y (K j)) (gn (K j))).ov nw && decide ((Y (K j)).nx < (Y (K j)).ct))) SQ.length) = -1) (hno : ∀ j, j < SP.length → ¬ (pX (Y (K j)) (gn (K j))).sF nw = 0) (w : World) (hL : Laid w)  (hT : There w (zO z gs gr tv xv :: (G ++ (H ++ (Tt ++ Tx))))) : Calls Tryz.prog 17 #[.pointer (some ⟨z, 0, none⟩), .agg (av 5 (ls (lR rc ct rk lf zz))), .agg (av 4 (ls (sR_ 2 id fi nw)))] w fun r w' => ∃ Z', r = .returned (.bool true) ∧ IsJ z (c + 1) Z' ∧ OkT w w' (zO z gs gr tv xv :: (G ++ (H ++ (Tt ++ Tx)))) Z' := by
 go_enter Tryz.func17, Tryz.ntmps17
 have M : Mem (zX w z gs gr tv xv (G ++ (H ++ (Tt ++ Tx)))) (zO z gs gr tv xv :: (G ++ (H ++ (Tt ++ Tx)))) w := Mem.startT hL hT
 obtain ⟨lQ, bQ, kQ, hlQ, hcQ⟩ := h_look hH
 have hl3 := hj.l3
 have hlen := hj.len
 refine sR ?_
 refine pN M 4 (.cells (av 5 (ls (lR rc ct rk lf zz))) 26) fun g1 u1 M => ?_
 replace M := M.front
 replace M : Mem (zX w z gs gr tv xv (G ++ (H ++ (Tt ++ Tx)))) (lB g1 rc ct rk lf zz :: zO z gs gr tv xv :: (G ++ (H ++ (Tt ++ Tx)))) u1 := M
 refine pN M 5 (.cells (av 4 (ls (sR_ 2 id fi nw))) 69) fun g2 u2 M => ?_
 replace M := M.front
 replace M : Mem (zX w z gs gr tv xv (G ++ (H ++ (Tt ++ Tx)))) (sB g2 2 id fi nw :: lB g1 rc ct rk lf zz :: zO z gs gr tv xv :: (G ++ (H ++ (Tt ++ Tx)))) u2 := M
 refine rV 1 <| nT <| wp_seq ?_
 refine rg_held M (sB g2 2 id fi nw :: lB g1 rc ct rk lf zz :: zO z gs gr tv xv :: (G ++ (H ++ (Tt ++ Tx)))) 7 rfl (by kernel_rfl) (by kernel_rfl) (fun _ _ d _ _ h => by cases d <;> exact h) fun u3 M => ?_
 replace M : Mem (zX w z gs gr tv xv (G ++ (H ++ (Tt ++ Tx)))) (sB g2 2 id fi nw :: lB g1 rc ct rk lf zz :: zO z gs gr tv xv :: (G ++ (H ++ (Tt ++ Tx)))) u3 := M
 refine qV M 0 36 (.pointer (some ⟨z, 0, none⟩)) ?_
 refine qV M 1 37 (.pointer (some ⟨z, 0, none⟩)) ?_
 refine qV M 2 38 (.pointer (some ⟨z, 1, none⟩)) ?_
 refine hl_cell M 3 rfl (by decide) (by kernel_rfl) (by kernel_rfl) (want_no rfl) (some 39) rfl 58 _ rfl z 1 (by kernel_rfl) (.pointer (some ⟨gr, 0, none⟩)) (fun _ => by kernel_rfl) (fun w M => M.cell 2 rfl (by decide) rfl) ?_
 refine qV M 4 40 (.pointer (some ⟨g2, 1, none⟩)) ?_
 refine hl_cell M 5 rfl (by decide) (by kernel_rfl) (by kernel_rfl) (want_no rfl) (some 41) rfl 67 _ rfl g2 1 (by kernel_rfl) (.int .u32 (id : Int)) (fun _ => by kernel_rfl) (fun w M => M.cell 0 rfl (by decide) rfl) ?_
 refine hl_one 6 (by decide) (by kernel_rfl) rfl ?_
 refine pC M 42 34 #[.pointer (some ⟨gr, 0, none⟩), .int .u32 (id : Int)] (.int .i64 (ix (fun j => decide (sI SQ j = id)) SQ.length)) (fun w M => h_Find hH (by omega) w M.laid (M.thereM (pre := (sB g2 2 id fi nw :: lB g1 rc ct rk lf zz :: zO z gs gr tv xv :: G)) (T := H) (suf := (Tt ++ Tx)) (by simp only [List.append_assoc, List.cons_append, List.nil_append, List.append_nil]))) fun u4 M => ?_
 refine nT ?_
 refine ⟨M, ?_⟩
 refine hl_end (by kernel_rfl) (by kernel_rfl) rfl ?_
 refine rV 1 <| nT <| au_then <| wp_seq <| sR ?_
 refine rV 1 <| ZE M 44 0 0 <| nT ?_
 refine wp_block ?_
 refine sq <| cF <| sq <| cT <| wp_seq ?_
 refine rg_held M (sB g2 2 id fi nw :: lB g1 rc ct rk lf zz :: zO z gs gr tv xv :: (G ++ (H ++ (Tt ++ Tx)))) 13 rfl (by kernel_rfl) (by kernel_rfl) (fun _ _ d _ _ h => by cases d <;> exact h) fun u5 M => ?_
 replace M : Mem (zX w z gs gr tv xv (G ++ (H ++ (Tt ++ Tx)))) (sB g2 2 id fi nw :: lB g1 rc ct rk lf zz :: zO z gs gr tv xv :: (G ++ (H ++ (Tt ++ Tx)))) u5 := M
 refine qV M 0 86 (.pointer (some ⟨z, 0, none⟩)) ?_
 refine qV M 1 87 (.pointer (some ⟨z, 0, none⟩)) ?_
 refine qV M 2 88 (.pointer (some ⟨z, 0, none⟩)) ?_
 refine hl_cell M 3 rfl (by decide) (by kernel_rfl) (by kernel_rfl) (want_no rfl) (some 89) rfl 56 _ rfl z 0 (by kernel_rfl) (.pointer (some ⟨gs, 0, none⟩)) (fun _ => by kernel_rfl) (fun w M => M.cell 2 rfl (by decide) rfl) ?_
 refine qV M 4 90 (.pointer (some ⟨g2, 3, none⟩)) ?_
 refine hl_cell M 5 rfl (by decide) (by kernel_rfl) (by kernel_rfl) (want_no rfl) (some 91) rfl 24 _ rfl g2 3 (by kernel_rfl) (.int .u64 (nw : Int)) (fun _ => by kernel_rfl) (fun w M => M.cell 0 rfl (by decide) rfl) ?_
 refine hl_one 6 (by decide) (by kernel_rfl) rfl ?_
 refine pC M 92 37 #[.pointer (some ⟨gs, 0, none⟩), .int .u64 (nw : Int)] (.tuple #[.int .u32 0, .pointer none, .int .i64 5]) (fun w M => g_BestA hG hj.kP hnw (by omega) hno w M.laid (M.thereM (pre := [sB g2 2 id fi nw, lB g1 rc ct rk lf zz, zO z gs gr tv xv]) (T := G) (suf := (H ++ (Tt ++ Tx))) (by simp only [List.append_assoc, List.cons_append, List.nil_append, List.append_nil]))) fun u6 M => ?_
 refine nT ?_
 refine ⟨M, ?_⟩
 refine qV M 7 85 (.tuple #[.int .u32 0, .pointer none, .int .i64 5]) ?_
 refine qV M 8 93 (.int .u32 0) ?_
 refine qV M 9 94 (.pointer none) ?_
 refine qV M 10 95 (.int .i64 5) ?_
 refine qV M 11 10 (.int .u32 0) ?_
 refine qV M 12 11 (.pointer none) ?_
 refine hl_end (by kernel_rfl) (by kernel_rfl) rfl ?_
 refine rV 1 <| nT <| au_then <| wp_seq ?_
 refine rg_held M (sB g2 2 id fi nw :: lB g1 rc ct rk lf zz :: zO z gs gr tv xv :: (G ++ (H ++ (Tt ++ Tx)))) 7 rfl (by kernel_rfl) (by kernel_rfl) (fun _ _ d _ _ h => by cases d <;> exact h) fun u7 M => ?_
 replace M : Mem (zX w z gs gr tv xv (G ++ (H ++ (Tt ++ Tx)))) (sB g2 2 id fi nw :: lB g1 rc ct rk lf zz :: zO z gs gr tv xv :: (G ++ (H ++ (Tt ++ Tx)))) u7 := M
 refine qV M 0 96 (.pointer (some ⟨z, 0, none⟩)) ?_
 refine qV M 1 97 (.pointer (some ⟨z, 0, none⟩)) ?_
 refine qV M 2 98 (.pointer (some ⟨z, 1, none⟩)) ?_
 refine hl_cell M 3 rfl (by decide) (by kernel_rfl) (by kernel_rfl) (want_no rfl) (some 99) rfl 58 _ rfl z 1 (by kernel_rfl) (.pointer (some ⟨gr, 0, none⟩)) (fun _ => by kernel_rfl) (fun w M => M.cell 2 rfl (by decide) rfl) ?_
 refine qV M 4 100 (.pointer (some ⟨g2, 3, none⟩)) ?_
 refine hl_cell M 5 rfl (by decide) (by kernel_rfl) (by kernel_rfl) (want_no rfl) (some 101) rfl 24 _ rfl g2 3 (by kernel_rfl) (.int .u64 (nw : Int)) (fun _ => by kernel_rfl) (fun w M => M.cell 0 rfl (by decide) rfl) ?_
 refine hl_one 6 (by decide) (by kernel_rfl) rfl ?_
 refine pC M 102 38 #[.pointer (some ⟨gr, 0, none⟩), .int .u64 (nw : Int)] (.int .i64 (-1)) (fun w M => call_val (h_Best hH hj.kQ (fun i hi => (hj.dk i hi).1.k1) hnw (by omega) w M.laid (M.thereM (pre := (sB g2 2 id fi nw :: lB g1 rc ct rk lf zz :: zO z gs gr tv xv :: G)) (T := H) (suf := (Tt ++ Tx)) (by simp only [List.append_assoc, List.cons_append, List.nil_append, List.append_nil]))) (by rw [hb])) fun u8 M => ?_
 refine nT ?_
 refine ⟨M, ?_⟩
 refine hl_end (by kernel_rfl) (by kernel_rfl) rfl ?_
 refine rV 1 <| nT <| au_then <| wp_seq <| sq ?_
 refine cT <| sq <| wp_ret <| au_then_ret ?_
 refine au_block_ret ?_
 refine au_then_ret ?_
 exact bodyPost_ret (v := .bool true) (results_tmp1 Tryz.results17 _ _ _ (by kernel_rfl)) (by kernel_rfl) ⟨_, rfl, ⟨gs, gr, SP, SQ, N, K, tp, dp, Y, gn, G, H, tv, Tt, xv, Tx, rfl, hG, hH, htv, hxv, hj.more⟩, ((M.drop (.cons _ (.cons _ (.cons_cons _ (List.Sublist.refl _)))))).okT0⟩
theorem d_2F {z c gs gr N : Nat} {SP SQ : List Sl} {K tp dp : Nat → Nat} {Y : Nat → TS} {gn : Nat → Bool} {G H Tt Tx : List Blk} {tv xv : Value} (hG : IsPS gs SP N tp (fun k => pX (Y k) (gn k)) G) (hH : IsQS gr SQ N dp Y gn H) (htv : SlW 1 (vT tp N) N tv Tt) (hxv : SlW 1 (vT dp N) N xv Tx) (hj : Jt SP SQ K N tp dp Y c) {rc ct rk lf id nw : Nat} {zz : Int} {fi : Bool} (hc : c < 10000) (hnw : nw < 18446744073709551616) {i : Nat} (hb : (lx (fun j => (Y (K j)).su && (!(pX (Y (K j)) (gn (K j))).ov nw && decide ((Y (K j)).nx < (Y (K j)).ct))) SQ.length) = (i : Int)) (hi : i < SP.length) (hsf : (pX (Y (K i)) (gn (K i))).sF nw = 0) (hno : ∀ j, i < j → j < SP.length → ¬ (pX (Y (K j)) (gn (K j))).sF nw = 0) (w : World) (hL : Laid w)  (hT : There w (zO z gs gr tv xv :: (G ++ (H ++ (Tt ++ Tx))))) : Calls Tryz.prog 17 #[.pointer (some ⟨z, 0, none⟩), .agg (av 5 (ls (lR rc ct rk lf zz))), .agg (av 4 (ls (sR_ 2 id fi nw)))] w fun r w' => ∃ Z', r = .returned (.bool true) ∧ IsJ z (c + 1) Z' ∧ OkT w w' (zO z gs gr tv xv :: (G ++ (H ++ (Tt ++ Tx)))) Z' := by
 go_enter Tryz.func17, Tryz.ntmps17
 have M : Mem (zX w z gs gr tv xv (G ++ (H ++ (Tt ++ Tx)))) (zO z gs gr tv xv :: (G ++ (H ++ (Tt ++ Tx)))) w := Mem.startT hL hT
 obtain ⟨lQ, bQ, kQ, hlQ, hcQ⟩ := h_look hH
 have hl3 := hj.l3
 have hlen := hj.len
 refine sR ?_
 refine pN M 4 (.cells (av 5 (ls (lR rc ct rk lf zz))) 26) fun g1 u1 M => ?_
 replace M := M.front
 replace M : Mem (zX w z gs gr tv xv (G ++ (H ++ (Tt ++ Tx)))) (lB g1 rc ct rk lf zz :: zO z gs gr tv xv :: (G ++ (H ++ (Tt ++ Tx)))) u1 := M
 refine pN M 5 (.cells (av 4 (ls (sR_ 2 id fi nw))) 69) fun g2 u2 M => ?_
 replace M := M.front
 replace M : Mem (zX w z gs gr tv xv (G ++ (H ++ (Tt ++ Tx)))) (sB g2 2 id fi nw :: lB g1 rc ct rk lf zz :: zO z gs gr tv xv :: (G ++ (H ++ (Tt ++ Tx)))) u2 := M
 refine rV 1 <| nT <| wp_seq ?_
 refine rg_held M (sB g2 2 id fi nw :: lB g1 rc ct rk lf zz :: zO z gs gr tv xv :: (G ++ (H ++ (Tt ++ Tx)))) 7 rfl (by kernel_rfl) (by kernel_rfl) (fun _ _ d _ _ h => by cases d <;> exact h) fun u3 M => ?_
 replace M : Mem (zX w z gs gr tv xv (G ++ (H ++ (Tt ++ Tx)))) (sB g2 2 id fi nw :: lB g1 rc ct rk lf zz :: zO z gs gr tv xv :: (G ++ (H ++ (Tt ++ Tx)))) u3 := M
 refine qV M 0 36 (.pointer (some ⟨z, 0, none⟩)) ?_
 refine qV M 1 37 (.pointer (some ⟨z, 0, none⟩)) ?_
 refine qV M 2 38 (.pointer (some ⟨z, 1, none⟩)) ?_
 refine hl_cell M 3 rfl (by decide) (by kernel_rfl) (by kernel_rfl) (want_no rfl) (some 39) rfl 58 _ rfl z 1 (by kernel_rfl) (.pointer (some ⟨gr, 0, none⟩)) (fun _ => by kernel_rfl) (fun w M => M.cell 2 rfl (by decide) rfl) ?_
 refine qV M 4 40 (.pointer (some ⟨g2, 1, none⟩)) ?_
 refine hl_cell M 5 rfl (by decide) (by kernel_rfl) (by kernel_rfl) (want_no rfl) (some 41) rfl 67 _ rfl g2 1 (by kernel_rfl) (.int .u32 (id : Int)) (fun _ => by kernel_rfl) (fun w M => M.cell 0 rfl (by decide) rfl) ?_
 refine hl_one 6 (by decide) (by kernel_rfl) rfl ?_
 refine pC M 42 34 #[.pointer (some ⟨gr, 0, none⟩), .int .u32 (id : Int)] (.int .i64 (ix (fun j => decide (sI SQ j = id)) SQ.length)) (fun w M => h_Find hH (by omega) w M.laid (M.thereM (pre := (sB g2 2 id fi nw :: lB g1 rc ct rk lf zz :: zO z gs gr tv xv :: G)) (T := H) (suf := (Tt ++ Tx)) (by simp only [List.append_assoc, List.cons_append, List.nil_append, List.append_nil]))) fun u4 M => ?_
 refine nT ?_
 refine ⟨M, ?_⟩
 refine hl_end (by kernel_rfl) (by kernel_rfl) rfl ?_
 refine rV 1 <| nT <| au_then <| wp_seq <| sR ?_
 refine rV 1 <| ZE M 44 0 0 <| nT ?_
 refine wp_block ?_
 refine sq <| cF <| sq <| cT <| wp_seq ?_
 refine rg_held M (sB g2 2 id fi nw :: lB g1 rc ct rk lf zz :: zO z gs gr tv xv :: (G ++ (H ++ (Tt ++ Tx)))) 13 rfl (by kernel_rfl) (by kernel_rfl) (fun _ _ d _ _ h => by cases d <;> exact h) fun u5 M => ?_
 replace M : Mem (zX w z gs gr tv xv (G ++ (H ++ (Tt ++ Tx)))) (sB g2 2 id fi nw :: lB g1 rc ct rk lf zz :: zO z gs gr tv xv :: (G ++ (H ++ (Tt ++ Tx)))) u5 := M
 refine qV M 0 86 (.pointer (some ⟨z, 0, none⟩)) ?_
 refine qV M 1 87 (.pointer (some ⟨z, 0, none⟩)) ?_
 refine qV M 2 88 (.pointer (some ⟨z, 0, none⟩)) ?_
 refine hl_cell M 3 rfl (by decide) (by kernel_rfl) (by kernel_rfl) (want_no rfl) (some 89) rfl 56 _ rfl z 0 (by kernel_rfl) (.pointer (some ⟨gs, 0, none⟩)) (fun _ => by kernel_rfl) (fun w M => M.cell 2 rfl (by decide) rfl) ?_
 refine qV M 4 90 (.pointer (some ⟨g2, 3, none⟩)) ?_
 refine hl_cell M 5 rfl (by decide) (by kernel_rfl) (by kernel_rfl) (want_no rfl) (some 91) rfl 24 _ rfl g2 3 (by kernel_rfl) (.int .u64 (nw : Int)) (fun _ => by kernel_rfl) (fun w M => M.cell 0 rfl (by decide) rfl) ?_
 refine hl_one 6 (by decide) (by kernel_rfl) rfl ?_
 refine pC M 92 37 #[.pointer (some ⟨gs, 0, none⟩), .int .u64 (nw : Int)] (.tuple #[.int .u32 ((sI SP i : Nat) : Int), .pointer (some ⟨(sJ SP i), 0, none⟩), .int .i64 0]) (fun w M => g_BestB hG hj.kP hnw (by omega) hi hsf hno w M.laid (M.thereM (pre := [sB g2 2 id fi nw, lB g1 rc ct rk lf zz, zO z gs gr tv xv]) (T := G) (suf := (H ++ (Tt ++ Tx))) (by simp only [List.append_assoc, List.cons_append, List.nil_append, List.append_nil]))) fun u6 M => ?_
 refine nT ?_
 refine ⟨M, ?_⟩
 refine qV M 7 85 (.tuple #[.int .u32 ((sI SP i : Nat) : Int), .pointer (some ⟨(sJ SP i), 0, none⟩), .int .i64 0]) ?_
 refine qV M 8 93 (.int .u32 ((sI SP i : Nat) : Int)) ?_
 refine qV M 9 94 (.pointer (some ⟨(sJ SP i), 0, none⟩)) ?_
 refine qV M 10 95 (.int .i64 0) ?_
 refine qV M 11 10 (.int .u32 ((sI SP i : Nat) : Int)) ?_
 refine qV M 12 11 (.pointer (some ⟨(sJ SP i), 0, none⟩)) ?_
 refine hl_end (by kernel_rfl) (by kernel_rfl) rfl ?_
 refine rV 1 <| nT <| au_then <| wp_seq ?_
 refine rg_held M (sB g2 2 id fi nw :: lB g1 rc ct rk lf zz :: zO z gs gr tv xv :: (G ++ (H ++ (Tt ++ Tx)))) 7 rfl (by kernel_rfl) (by kernel_rfl) (fun _ _ d _ _ h => by cases d <;> exact h) fun u7 M => ?_
 replace M : Mem (zX w z gs gr tv xv (G ++ (H ++ (Tt ++ Tx)))) (sB g2 2 id fi nw :: lB g1 rc ct rk lf zz :: zO z gs gr tv xv :: (G ++ (H ++ (Tt ++ Tx)))) u7 := M
 refine qV M 0 96 (.pointer (some ⟨z, 0, none⟩)) ?_
 refine qV M 1 97 (.pointer (some ⟨z, 0, none⟩)) ?_
 refine qV M 2 98 (.pointer (some ⟨z, 1, none⟩)) ?_
 refine hl_cell M 3 rfl (by decide) (by kernel_rfl) (by kernel_rfl) (want_no rfl) (some 99) rfl 58 _ rfl z 1 (by kernel_rfl) (.pointer (some ⟨gr, 0, none⟩)) (fun _ => by kernel_rfl) (fun w M => M.cell 2 rfl (by decide) rfl) ?_
 refine qV M 4 100 (.pointer (some ⟨g2, 3, none⟩)) ?_
 refine hl_cell M 5 rfl (by decide) (by kernel_rfl) (by kernel_rfl) (want_no rfl) (some 101) rfl 24 _ rfl g2 3 (by kernel_rfl) (.int .u64 (nw : Int)) (fun _ => by kernel_rfl) (fun w M => M.cell 0 rfl (by decide) rfl) ?_
 refine hl_one 6 (by decide) (by kernel_rfl) rfl ?_
 refine pC M 102 38 #[.pointer (some ⟨gr, 0, none⟩), .int .u64 (nw : Int)] (.int .i64 (i : Int)) (fun w M => call_val (h_Best hH hj.kQ (fun i hi => (hj.dk i hi).1.k1) hnw (by omega) w M.laid (M.thereM (pre := (sB g2 2 id fi nw :: lB g1 rc ct rk lf zz :: zO z gs gr tv xv :: G)) (T := H) (suf := (Tt ++ Tx)) (by simp only [List.append_assoc, List.cons_append, List.nil_append, List.append_nil]))) (by rw [hb])) fun u8 M => ?_
 refine nT ?_
 refine ⟨M, ?_⟩
 refine hl_end (by kernel_rfl) (by kernel_rfl) rfl ?_
 refine rV 1 <| nT <| au_then <| wp_seq <| sR ?_
 refine rV 1 ?_
 by_cases c0 : (i : Int) < 0
 ·exfalso; omega
 ·refine pH 104 (.bool false) (jF ((i : Int) < 0) (c0)) ?_
  refine nT <| cF <| wp_skip <| au_then <| sR ?_
  refine rV 7 ?_
  refine pl_cell M (want_on 2 true rfl 117 rfl (by kernel_rfl)) (some 122) rfl 58 _ rfl z 1 (by kernel_rfl) (.pointer (some ⟨gr, 0, none⟩)) (fun _ => by kernel_rfl) (fun w M => M.cell 2 rfl (by decide) rfl) ?_
  refine rV 2 ?_
  refine pl_cell M (want_on 2 true rfl 117 rfl (by kernel_rfl)) (some 125) rfl 59 _ rfl gr 0 (by kernel_rfl) (.slice lQ SQ.length kQ) (fun _ => by kernel_rfl) (fun w M => (hcQ _ (M.thereM (pre := (sB g2 2 id fi nw :: lB g1 rc ct rk lf zz :: zO z gs gr tv xv :: G)) (T := H) (suf := (Tt ++ Tx)) (by simp only [List.append_assoc, List.cons_append, List.nil_append, List.append_nil]))).1) ?_
  refine rV 1 ?_
  refine pl_val (want_on 2 true rfl 117 rfl (by kernel_rfl)) (some 127) rfl (.pointer (some ⟨bQ, (0 + i * 2), none⟩)) (run_ixK 59 72 2 Tryz.underlying59 inz72 _ _ rfl lQ bQ 0 SQ.length kQ (by kernel_rfl) (hlQ (by omega)) .i64 i (by kernel_rfl) (by omega)) ?_
  refine rV 1 ?_
  refine pl_cell M (want_on 2 true rfl 117 rfl (by kernel_rfl)) (some 129) rfl 67 _ rfl bQ ((0 + i * 2) + 0) (by kernel_rfl) (.int .u32 ((sI SP i : Nat) : Int)) (fun _ => by kernel_rfl) (fun w M => (by rw [← hj.ids i hi]; exact ((hcQ _ (M.thereM (pre := (sB g2 2 id fi nw :: lB g1 rc ct rk lf zz :: zO z gs gr tv xv :: G)) (T := H) (suf := (Tt ++ Tx)) (by simp only [List.append_assoc, List.cons_append, List.nil_append, List.append_nil]))).2.1 i (by omega)))) ?_
  refine pl_val (want_on 2 true rfl 117 rfl (by kernel_rfl)) (some 130) rfl (.bool true) (fun w => Eq.trans (b := .ok (.value (.bool (decide (((sI SP i : Nat) : Int) = ((sI SP i : Nat) : Int))))) w) (by kernel_rfl) (by rw [decide_eq_true (by omega)])) ?_
  refine rV 7 ?_
  refine pl_cell M (want_on 17 true rfl 132 rfl (by kernel_rfl)) (some 138) rfl 58 _ rfl z 1 (by kernel_rfl) (.pointer (some ⟨gr, 0, none⟩)) (fun _ => by kernel_rfl) (fun w M => M.cell 2 rfl (by decide) rfl) ?_
  refine rV 2 ?_
  refine pl_cell M (want_on 17 true rfl 132 rfl (by kernel_rfl)) (some 141) rfl 59 _ rfl gr 0 (by kernel_rfl) (.slice lQ SQ.length kQ) (fun _ => by kernel_rfl) (fun w M => (hcQ _ (M.thereM (pre := (sB g2 2 id fi nw :: lB g1 rc ct rk lf zz :: zO z gs gr tv xv :: G)) (T := H) (suf := (Tt ++ Tx)) (by simp only [List.append_assoc, List.cons_append, List.nil_append, List.append_nil]))).1) ?_
  refine rV 1 ?_
  refine pl_val (want_on 17 true rfl 132 rfl (by kernel_rfl)) (some 143) rfl (.pointer (some ⟨bQ, (0 + i * 2), none⟩)) (run_ixK 59 72 2 Tryz.underlying59 inz72 _ _ rfl lQ bQ 0 SQ.length kQ (by kernel_rfl) (hlQ (by omega)) .i64 i (by kernel_rfl) (by omega)) ?_
  refine rV 1 ?_
  refine pl_cell M (want_on 17 true rfl 132 rfl (by kernel_rfl)) (some 145) rfl 32 _ rfl bQ ((0 + i * 2) + 1) (by kernel_rfl) (.pointer (some ⟨(sJ SQ i), 0, none⟩)) (fun _ => by kernel_rfl) (fun w M => ((hcQ _ (M.thereM (pre := (sB g2 2 id fi nw :: lB g1 rc ct rk lf zz :: zO z gs gr tv xv :: G)) (T := H) (suf := (Tt ++ Tx)) (by simp only [List.append_assoc, List.cons_append, List.nil_append, List.append_nil]))).2.2 i (by omega))) ?_
  refine pl_call M (want_on 17 true rfl 132 rfl (by kernel_rfl)) (some 146) rfl 36 #[.pointer (some ⟨z, 0, none⟩), .pointer (some ⟨(sJ SP i), 0, none⟩), .pointer (some ⟨(sJ SQ i), 0, none⟩)] (.bool true) (fun _ => by kernel_rfl) (fun w M => by rw [(hj.kP i hi).2, (hj.kQ i (by omega)).2]; exact a_at hH htv hxv (by have := hj.nN; omega) (hj.kP i hi).1 w M.laid (M.thereM (pre := [sB g2 2 id fi nw, lB g1 rc ct rk lf zz]) (T := (zO z gs gr tv xv :: (G ++ (H ++ (Tt ++ Tx))))) (suf := []) (by simp only [List.append_assoc, List.cons_append, List.nil_append, List.append_nil]))) fun u9 M => ?_
  refine rV 2 <| nT <| wp_ret ?_
  refine au_block_ret ?_
  refine au_then_ret ?_
  exact bodyPost_ret (v := .bool true) (results_tmp1 Tryz.results17 _ _ _ (by kernel_rfl)) (by kernel_rfl) ⟨_, rfl, ⟨gs, gr, SP, SQ, N, K, tp, dp, Y, gn, G, H, tv, Tt, xv, Tx, rfl, hG, hH, htv, hxv, hj.more⟩, ((M.drop (.cons _ (.cons _ (.cons_cons _ (List.Sublist.refl _)))))).okT0⟩
theorem d_4 {z c gs gr N : Nat} {SP SQ : List Sl} {K tp dp : Nat → Nat} {Y : Nat → TS} {gn : Nat → Bool} {G H Tt Tx : List Blk} {tv xv : Value} (hG : IsPS gs SP N tp (fun k => pX (Y k) (gn k)) G) (hH : IsQS gr SQ N dp Y gn H) (htv : SlW 1 (vT tp N) N tv Tt) (hxv : SlW 1 (vT dp N) N xv Tx) (hj : Jt SP SQ K N tp dp Y c) {rc ct rk lf id nw : Nat} {zz : Int} {fi : Bool}  (w : World) (hL : Laid w)  (hT : There w (zO z gs gr tv xv :: (G ++ (H ++ (Tt ++ Tx))))) : Calls Tryz.prog 17 #[.pointer (some ⟨z, 0, none⟩), .agg (av 5 (ls (lR rc ct rk lf zz))), .agg (av 4 (ls (sR_ 4 id fi nw)))] w fun r w' => ∃ Z', r = .returned (.bool true) ∧ IsJ z (c + 1) Z' ∧ OkT w w' (zO z gs gr tv xv :: (G ++ (H ++ (Tt ++ Tx)))) Z' := by
 go_enter Tryz.func17, Tryz.ntmps17
 have M : Mem (zX w z gs gr tv xv (G ++ (H ++ (Tt ++ Tx)))) (zO z gs gr tv xv :: (G ++ (H ++ (Tt ++ Tx)))) w := Mem.startT hL hT
 obtain ⟨lQ, bQ, kQ, hlQ, hcQ⟩ := h_look hH
 have hl3 := hj.l3
 have hlen := hj.len
 refine sR ?_
 refine pN M 4 (.cells (av 5 (ls (lR rc ct rk lf zz))) 26) fun g1 u1 M => ?_
 replace M := M.front
 replace M : Mem (zX w z gs gr tv xv (G ++ (H ++ (Tt ++ Tx)))) (lB g1 rc ct rk lf zz :: zO z gs gr tv xv :: (G ++ (H ++ (Tt ++ Tx)))) u1 := M
 refine pN M 5 (.cells (av 4 (ls (sR_ 4 id fi nw))) 69) fun g2 u2 M => ?_
 replace M := M.front
 replace M : Mem (zX w z gs gr tv xv (G ++ (H ++ (Tt ++ Tx)))) (sB g2 4 id fi nw :: lB g1 rc ct rk lf zz :: zO z gs gr tv xv :: (G ++ (H ++ (Tt ++ Tx)))) u2 := M
 refine rV 1 <| nT <| wp_seq ?_
 refine rg_held M (sB g2 4 id fi nw :: lB g1 rc ct rk lf zz :: zO z gs gr tv xv :: (G ++ (H ++ (Tt ++ Tx)))) 7 rfl (by kernel_rfl) (by kernel_rfl) (fun _ _ d _ _ h => by cases d <;> exact h) fun u3 M => ?_
 replace M : Mem (zX w z gs gr tv xv (G ++ (H ++ (Tt ++ Tx)))) (sB g2 4 id fi nw :: lB g1 rc ct rk lf zz :: zO z gs gr tv xv :: (G ++ (H ++ (Tt ++ Tx)))) u3 := M
 refine qV M 0 36 (.pointer (some ⟨z, 0, none⟩)) ?_
 refine qV M 1 37 (.pointer (some ⟨z, 0, none⟩)) ?_
 refine qV M 2 38 (.pointer (some ⟨z, 1, none⟩)) ?_
 refine hl_cell M 3 rfl (by decide) (by kernel_rfl) (by kernel_rfl) (want_no rfl) (some 39) rfl 58 _ rfl z 1 (by kernel_rfl) (.pointer (some ⟨gr, 0, none⟩)) (fun _ => by kernel_rfl) (fun w M => M.cell 2 rfl (by decide) rfl) ?_
 refine qV M 4 40 (.pointer (some ⟨g2, 1, none⟩)) ?_
 refine hl_cell M 5 rfl (by decide) (by kernel_rfl) (by kernel_rfl) (want_no rfl) (some 41) rfl 67 _ rfl g2 1 (by kernel_rfl) (.int .u32 (id : Int)) (fun _ => by kernel_rfl) (fun w M => M.cell 0 rfl (by decide) rfl) ?_
 refine hl_one 6 (by decide) (by kernel_rfl) rfl ?_
 refine pC M 42 34 #[.pointer (some ⟨gr, 0, none⟩), .int .u32 (id : Int)] (.int .i64 (ix (fun j => decide (sI SQ j = id)) SQ.length)) (fun w M => h_Find hH (by omega) w M.laid (M.thereM (pre := (sB g2 4 id fi nw :: lB g1 rc ct rk lf zz :: zO z gs gr tv xv :: G)) (T := H) (suf := (Tt ++ Tx)) (by simp only [List.append_assoc, List.cons_append, List.nil_append, List.append_nil]))) fun u4 M => ?_
 refine nT ?_
 refine ⟨M, ?_⟩
 refine hl_end (by kernel_rfl) (by kernel_rfl) rfl ?_
 refine rV 1 <| nT <| au_then <| wp_seq <| sR ?_
 refine rV 1 <| ZE M 44 0 0 <| nT ?_
 refine wp_block ?_
 refine sq <| cF <| sq <| cF <| sq ?_
 refine cF <| sq <| cT <| wp_seq ?_
 refine rg_held M (sB g2 4 id fi nw :: lB g1 rc ct rk lf zz :: zO z gs gr tv xv :: (G ++ (H ++ (Tt ++ Tx)))) 8 rfl (by kernel_rfl) (by kernel_rfl) (fun _ _ d _ _ h => by cases d <;> exact h) fun u5 M => ?_
 replace M : Mem (zX w z gs gr tv xv (G ++ (H ++ (Tt ++ Tx)))) (sB g2 4 id fi nw :: lB g1 rc ct rk lf zz :: zO z gs gr tv xv :: (G ++ (H ++ (Tt ++ Tx)))) u5 := M
 refine qV M 0 167 (.pointer (some ⟨z, 0, none⟩)) ?_
 refine qV M 1 168 (.pointer (some ⟨z, 0, none⟩)) ?_
 refine qV M 2 169 (.pointer (some ⟨z, 0, none⟩)) ?_
 refine hl_cell M 3 rfl (by decide) (by kernel_rfl) (by kernel_rfl) (want_no rfl) (some 170) rfl 56 _ rfl z 0 (by kernel_rfl) (.pointer (some ⟨gs, 0, none⟩)) (fun _ => by kernel_rfl) (fun w M => M.cell 2 rfl (by decide) rfl) ?_
 refine qV M 4 171 (.pointer (some ⟨g2, 1, none⟩)) ?_
 refine hl_cell M 5 rfl (by decide) (by kernel_rfl) (by kernel_rfl) (want_no rfl) (some 172) rfl 67 _ rfl g2 1 (by kernel_rfl) (.int .u32 (id : Int)) (fun _ => by kernel_rfl) (fun w M => M.cell 0 rfl (by decide) rfl) ?_
 refine hl_one 6 (by decide) (by kernel_rfl) rfl ?_
 refine pC M 173 41 #[.pointer (some ⟨gs, 0, none⟩), .int .u32 (id : Int), .pointer none] (.int .i64 2) (fun w M => g_Put4 hG w M.laid (M.thereM (pre := [sB g2 4 id fi nw, lB g1 rc ct rk lf zz, zO z gs gr tv xv]) (T := G) (suf := (H ++ (Tt ++ Tx))) (by simp only [List.append_assoc, List.cons_append, List.nil_append, List.append_nil]))) fun u6 M => ?_
 refine nT ?_
 refine ⟨M, ?_⟩
 refine qV M 7 174 (.bool true) ?_
 refine hl_end (by kernel_rfl) (by kernel_rfl) rfl ?_
 refine rV 1 <| nT <| au_then <| wp_ret ?_
 refine au_block_ret ?_
 refine au_then_ret ?_
 exact bodyPost_ret (v := .bool true) (results_tmp1 Tryz.results17 _ _ _ (by kernel_rfl)) (by kernel_rfl) ⟨_, rfl, ⟨gs, gr, SP, SQ, N, K, tp, dp, Y, gn, G, H, tv, Tt, xv, Tx, rfl, hG, hH, htv, hxv, hj.more⟩, ((M.drop (.cons _ (.cons _ (.cons_cons _ (List.Sublist.refl _)))))).okT0⟩
open Go.RowKit
theorem slw_gen {L : List Value} {n : Nat} {v : Value} {T : List Blk} (h : SlW 1 L n v T) : ∃ l b k, v = .slice l n k ∧ (0 < n → l = some ⟨b, 0, none⟩) ∧ ∀ w, There w T → ∀ j u, L[j]? = some u → w.cell? ⟨b, 0 + j * 1, none⟩ = some u := by
 rcases h.ex with ⟨h0, rfl, rfl⟩ | ⟨g, cap, Z, rfl, hc, hs, rfl⟩
 ·subst h0
  have e : L = [] := List.length_eq_zero_iff.1 (by rw [h.len, Nat.zero_mul])
  subst e
  exact ⟨none, 0, 0, rfl, fun h => absurd h (by omega), fun w _ j u hj => by cases hj⟩
 ·refine ⟨_, g, cap, rfl, fun _ => rfl, fun w hT j u hj => ?_⟩
  rw [Nat.zero_add, Nat.mul_one]
  exact hs.cell (hT.at_ ⟨g, Z⟩ List.mem_cons_self) hj
theorem a_ids {L : List Value} {n : Nat} {v v' : Value} {T T' : List Blk} (h : SlW 1 L n v T) (h' : SlW 1 L n v' T') (hu : ∀ u ∈ L, ∃ x : Nat, u = .int .u32 (x : Int)) (hn : n < 1000) (w : World) (hL : Laid w) (hT : There w T) (hT' : There w T') : Cs 18 #[v, v'] w (.bool true) := by
 obtain ⟨l, b, k, rfl, hl, hc⟩ := slw_gen h
 obtain ⟨l', b', k', rfl, hl', hc'⟩ := slw_gen h'
 have hlen : L.length = n := by rw [h.len, Nat.mul_one]
 have hI : ∃ I : Nat → Nat, ∀ j, j < n → L[j]? = some (.int .u32 ((I j : Nat) : Int)) := by
  refine ⟨fun j => if hj : j < L.length then Classical.choose (hu _ (List.getElem_mem hj)) else 0, fun j hj => ?_⟩
  have hj' : j < L.length := by omega
  simp only [dif_pos hj']
  rw [List.getElem?_eq_getElem hj']
  exact congrArg some (Classical.choose_spec (hu _ (List.getElem_mem hj')))
 obtain ⟨I, hI⟩ := hI
 exact c_ids hl hl' (by omega) w hL (fun j hj => hc w hT j _ (hI j hj)) (fun j hj => hc' w hT' j _ (hI j hj))
theorem gL_u {g : Nat → Bool} {I : Nat → Nat} : ∀ n, ∀ u ∈ gL g I n, ∃ x : Nat, u = .int .u32 (x : Int)
 | 0, u, h => by cases h
 | n + 1, u, h => by
  unfold gL at h
  split at h
  ·rcases List.mem_append.1 h with h | h
   ·exact gL_u n u h
   ·exact ⟨I n, List.mem_singleton.1 h⟩
  ·exact gL_u n u h
theorem vI_u {I : Nat → Nat} : ∀ n, ∀ u ∈ vI I n, ∃ x : Nat, u = .int .u32 (x : Int)
 | 0, u, h => by cases h
 | n + 1, u, h => by
  rw [vI] at h
  rcases List.mem_append.1 h with h | h
  ·exact vI_u n u h
  ·exact ⟨I n, List.mem_singleton.1 h⟩
theorem d_3 {z c gs gr N : Nat} {SP SQ : List Sl} {K tp dp : Nat → Nat} {Y : Nat → TS} {gn : Nat → Bool} {G H Tt Tx : List Blk} {tv xv : Value} (hG : IsPS gs SP N tp (fun k => pX (Y k) (gn k)) G) (hH : IsQS gr SQ N dp Y gn H) (htv : SlW 1 (vT tp N) N tv Tt) (hxv : SlW 1 (vT dp N) N xv Tx) (hj : Jt SP SQ K N tp dp Y c) {rc ct rk lf id nw : Nat} {zz : Int} {fi : Bool} (hnw : nw < 18446744073709551616)  (w : World) (hL : Laid w)  (hT : There w (zO z gs gr tv xv :: (G ++ (H ++ (Tt ++ Tx))))) : Calls Tryz.prog 17 #[.pointer (some ⟨z, 0, none⟩), .agg (av 5 (ls (lR rc ct rk lf zz))), .agg (av 4 (ls (sR_ 3 id fi nw)))] w fun r w' => ∃ Z', r = .returned (.bool true) ∧ IsJ z (c + 1) Z' ∧ OkT w w' (zO z gs gr tv xv :: (G ++ (H ++ (Tt ++ Tx)))) Z' := by
 go_enter Tryz.func17, Tryz.ntmps17
 have M : Mem (zX w z gs gr tv xv (G ++ (H ++ (Tt ++ Tx)))) (zO z gs gr tv xv :: (G ++ (H ++ (Tt ++ Tx)))) w := Mem.startT hL hT
 obtain ⟨lQ, bQ, kQ, hlQ, hcQ⟩ := h_look hH
 have hl3 := hj.l3
 have hlen := hj.len
 refine sR <| pN M 4 (.cells (av 5 (ls (lR rc ct rk lf zz))) 26) fun g1 u1 M => ?_
 replace M := M.front
 replace M : Mem (zX w z gs gr tv xv (G ++ (H ++ (Tt ++ Tx)))) (lB g1 rc ct rk lf zz :: zO z gs gr tv xv :: (G ++ (H ++ (Tt ++ Tx)))) u1 := M
 refine pN M 5 (.cells (av 4 (ls (sR_ 3 id fi nw))) 69) fun g2 u2 M => ?_
 replace M := M.front
 replace M : Mem (zX w z gs gr tv xv (G ++ (H ++ (Tt ++ Tx)))) (sB g2 3 id fi nw :: lB g1 rc ct rk lf zz :: zO z gs gr tv xv :: (G ++ (H ++ (Tt ++ Tx)))) u2 := M
 refine rV 1 <| nT <| wp_seq <| rg_held M (sB g2 3 id fi nw :: lB g1 rc ct rk lf zz :: zO z gs gr tv xv :: (G ++ (H ++ (Tt ++ Tx)))) 7 rfl (by kernel_rfl) (by kernel_rfl) (fun _ _ d _ _ h => by cases d <;> exact h) fun u3 M => ?_
 replace M : Mem (zX w z gs gr tv xv (G ++ (H ++ (Tt ++ Tx)))) (sB g2 3 id fi nw :: lB g1 rc ct rk lf zz :: zO z gs gr tv xv :: (G ++ (H ++ (Tt ++ Tx)))) u3 := M
 refine qV M 0 36 (.pointer (some ⟨z, 0, none⟩)) <| qV M 1 37 (.pointer (some ⟨z, 0, none⟩)) <| qV M 2 38 (.pointer (some ⟨z, 1, none⟩)) <| hl_cell M 3 rfl (by decide) (by kernel_rfl) (by kernel_rfl) (want_no rfl) (some 39) rfl 58 _ rfl z 1 (by kernel_rfl) (.pointer (some ⟨gr, 0, none⟩)) (fun _ => by kernel_rfl) (fun w M => M.cell 2 rfl (by decide) rfl) <| qV M 4 40 (.pointer (some ⟨g2, 1, none⟩)) <| hl_cell M 5 rfl (by decide) (by kernel_rfl) (by kernel_rfl) (want_no rfl) (some 41) rfl 67 _ rfl g2 1 (by kernel_rfl) (.int .u32 (id : Int)) (fun _ => by kernel_rfl) (fun w M => M.cell 0 rfl (by decide) rfl) <| hl_one 6 (by decide) (by kernel_rfl) rfl <| pC M 42 34 #[.pointer (some ⟨gr, 0, none⟩), .int .u32 (id : Int)] (.int .i64 (ix (fun j => decide (sI SQ j = id)) SQ.length)) (fun w M => h_Find hH (by omega) w M.laid (M.thereM (pre := (sB g2 3 id fi nw :: lB g1 rc ct rk lf zz :: zO z gs gr tv xv :: G)) (T := H) (suf := (Tt ++ Tx)) (by simp only [List.append_assoc, List.cons_append, List.nil_append, List.append_nil]))) fun u4 M => nT ?_
 refine ⟨M, ?_⟩
 refine hl_end (by kernel_rfl) (by kernel_rfl) rfl <| rV 1 <| nT <| au_then <| wp_seq <| sR <| rV 1 <| ZE M 44 0 0 <| nT <| wp_block <| sq <| cF <| sq <| cF <| sq <| cT ?_
 refine wp_seq <| rg_held M [sB g2 3 id fi nw, lB g1 rc ct rk lf zz, zO z gs gr tv xv] 15 rfl (by kernel_rfl) (by kernel_rfl) (fun _ _ d _ _ h => by cases d <;> exact h) fun u5 M => ?_
 replace M : Mem (zX w z gs gr tv xv (G ++ (H ++ (Tt ++ Tx)))) (sB g2 3 id fi nw :: lB g1 rc ct rk lf zz :: zO z gs gr tv xv :: (G ++ (H ++ (Tt ++ Tx)))) u5 := M
 refine qV (M.drop (.cons_cons _ (.cons_cons _ (.cons_cons _ (List.nil_sublist _))))) 0 150 (.pointer (some ⟨z, 0, none⟩)) <| qV (M.drop (.cons_cons _ (.cons_cons _ (.cons_cons _ (List.nil_sublist _))))) 1 151 (.pointer (some ⟨z, 0, none⟩)) <| qV (M.drop (.cons_cons _ (.cons_cons _ (.cons_cons _ (List.nil_sublist _))))) 2 152 (.pointer (some ⟨z, 0, none⟩)) <| hl_cell (M.drop (.cons_cons _ (.cons_cons _ (.cons_cons _ (List.nil_sublist _))))) 3 rfl (by decide) (by kernel_rfl) (by kernel_rfl) (want_no rfl) (some 153) rfl 56 _ rfl z 0 (by kernel_rfl) (.pointer (some ⟨gs, 0, none⟩)) (fun _ => by kernel_rfl) (fun w M => M.cell 2 rfl (by decide) rfl) <| qV (M.drop (.cons_cons _ (.cons_cons _ (.cons_cons _ (List.nil_sublist _))))) 4 154 (.pointer (some ⟨g2, 3, none⟩)) <| hl_cell (M.drop (.cons_cons _ (.cons_cons _ (.cons_cons _ (List.nil_sublist _))))) 5 rfl (by decide) (by kernel_rfl) (by kernel_rfl) (want_no rfl) (some 155) rfl 24 _ rfl g2 3 (by kernel_rfl) (.int .u64 (nw : Int)) (fun _ => by kernel_rfl) (fun w M => M.cell 0 rfl (by decide) rfl) <| qV (M.drop (.cons_cons _ (.cons_cons _ (.cons_cons _ (List.nil_sublist _))))) 7 157 (.pointer (some ⟨z, 0, none⟩)) <| qV (M.drop (.cons_cons _ (.cons_cons _ (.cons_cons _ (List.nil_sublist _))))) 8 158 (.pointer (some ⟨z, 0, none⟩)) <| qV (M.drop (.cons_cons _ (.cons_cons _ (.cons_cons _ (List.nil_sublist _))))) 9 159 (.pointer (some ⟨z, 1, none⟩)) <| hl_cell (M.drop (.cons_cons _ (.cons_cons _ (.cons_cons _ (List.nil_sublist _))))) 10 rfl (by decide) (by kernel_rfl) (by kernel_rfl) (want_no rfl) (some 160) rfl 58 _ rfl z 1 (by kernel_rfl) (.pointer (some ⟨gr, 0, none⟩)) (fun _ => by kernel_rfl) (fun w M => M.cell 2 rfl (by decide) rfl) <| qV (M.drop (.cons_cons _ (.cons_cons _ (.cons_cons _ (List.nil_sublist _))))) 11 161 (.pointer (some ⟨g2, 3, none⟩)) <| hl_cell (M.drop (.cons_cons _ (.cons_cons _ (.cons_cons _ (List.nil_sublist _))))) 12 rfl (by decide) (by kernel_rfl) (by kernel_rfl) (want_no rfl) (some 162) rfl 24 _ rfl g2 3 (by kernel_rfl) (.int .u64 (nw : Int)) (fun _ => by kernel_rfl) (fun w M => M.cell 0 rfl (by decide) rfl) <| hl_one 6 (by decide) (by kernel_rfl) rfl <| pl_callM M (want_no rfl) (some 156) rfl 39 #[.pointer (some ⟨gs, 0, none⟩), .int .u64 (nw : Int)] [sB g2 3 id fi nw, lB g1 rc ct rk lf zz, zO z gs gr tv xv] (G) ((H ++ (Tt ++ Tx))) (by simp only [List.append_assoc, List.cons_append, List.nil_append, List.append_nil]) (fun x : Value × List Blk × List Blk => x.1) (fun x : Value × List Blk × List Blk => (x.2.2 ++ x.2.1)) (fun x : Value × List Blk × List Blk => (SlW 1 (gL (fun j => (pX (Y (K j)) (gn (K j))).ov nw) (sI SP) SP.length) (gL (fun j => (pX (Y (K j)) (gn (K j))).ov nw) (sI SP) SP.length).length x.1 x.2.1 ∧ IsPS gs (kp (fun j => (pX (Y (K j)) (gn (K j))).ov nw) SP SP.length) N tp (xw (fun j => (pX (Y (K j)) (gn (K j))).ov nw) K (fun k => pX (Y k) (gn k)) SP.length) x.2.2)) (fun _ => by kernel_rfl) (fun w hL hT => g_Tidy hG hj.kP hnw (by omega) w hL hT) ?_
 rintro ⟨so, To, G2⟩ u6 ⟨hO, hG2⟩ M
 replace M : Mem (zX w z gs gr tv xv (G ++ (H ++ (Tt ++ Tx)))) (sB g2 3 id fi nw :: lB g1 rc ct rk lf zz :: zO z gs gr tv xv :: (G2 ++ (To ++ (H ++ (Tt ++ Tx))))) u6 := by simpa only [List.append_assoc, List.cons_append, List.nil_append, List.append_nil] using M
 refine nT ?_
 refine ⟨(M.drop (.cons_cons _ (.cons_cons _ (.cons_cons _ (List.nil_sublist _))))), ?_⟩
 refine hl_one 13 (by decide) (by kernel_rfl) rfl <| pl_callM M (want_no rfl) (some 163) rfl 40 #[.pointer (some ⟨gr, 0, none⟩), .int .u64 (nw : Int)] (sB g2 3 id fi nw :: lB g1 rc ct rk lf zz :: zO z gs gr tv xv :: (G2 ++ To)) (H) ((Tt ++ Tx)) (by simp only [List.append_assoc, List.cons_append, List.nil_append, List.append_nil]) (fun x : Value × List Blk × List Blk => x.1) (fun x : Value × List Blk × List Blk => (x.2.2 ++ x.2.1)) (fun x : Value × List Blk × List Blk => (SlW 1 (gL (fun j => (pX (Y (K j)) (gn (K j))).ov nw) (sI SQ) SQ.length) (gL (fun j => (pX (Y (K j)) (gn (K j))).ov nw) (sI SQ) SQ.length).length x.1 x.2.1 ∧ IsQS gr (kp (fun j => (pX (Y (K j)) (gn (K j))).ov nw) SQ SQ.length) N dp Y (gw (fun j => (pX (Y (K j)) (gn (K j))).ov nw) K gn SQ.length) x.2.2)) (fun _ => by kernel_rfl) (fun w hL hT => h_Tidy hH hj.kQ (fun i hi => (hj.dk i hi).1.k1) hnw (by omega) w hL hT) ?_
 rintro ⟨sq, Tq, H2⟩ u7 ⟨hO2, hH2⟩ M
 replace M : Mem (zX w z gs gr tv xv (G ++ (H ++ (Tt ++ Tx)))) (sB g2 3 id fi nw :: lB g1 rc ct rk lf zz :: zO z gs gr tv xv :: (G2 ++ (To ++ (H2 ++ (Tq ++ (Tt ++ Tx)))))) u7 := by simpa only [List.append_assoc, List.cons_append, List.nil_append, List.append_nil] using M
 have hO3 : SlW 1 (gL (fun j => (pX (Y (K j)) (gn (K j))).ov nw) (sI SP) SP.length) (gL (fun j => (pX (Y (K j)) (gn (K j))).ov nw) (sI SP) SP.length).length sq Tq := by have e := gL_ext (g := (fun j => (pX (Y (K j)) (gn (K j))).ov nw)) hj.ids; rw [← e, ← hj.len]; exact hO2
 refine nT ?_
 refine ⟨(M.drop (.cons_cons _ (.cons_cons _ (.cons_cons _ (List.nil_sublist _))))), ?_⟩
 refine hl_one 14 (by decide) (by kernel_rfl) rfl ?_
 refine pC M 164 18 #[so, sq] (.bool true) (fun w M => a_ids hO hO3 (gL_u _) (by have := gL_len (fun j => (pX (Y (K j)) (gn (K j))).ov nw) (sI SP) SP.length; omega) w M.laid (M.thereM (pre := (sB g2 3 id fi nw :: lB g1 rc ct rk lf zz :: zO z gs gr tv xv :: G2)) (T := To) (suf := (H2 ++ (Tq ++ (Tt ++ Tx)))) (by simp only [List.append_assoc, List.cons_append, List.nil_append, List.append_nil])) (M.thereM (pre := (sB g2 3 id fi nw :: lB g1 rc ct rk lf zz :: zO z gs gr tv xv :: (G2 ++ (To ++ H2)))) (T := Tq) (suf := (Tt ++ Tx)) (by simp only [List.append_assoc, List.cons_append, List.nil_append, List.append_nil]))) fun u8 M => ?_
 refine nT ?_
 refine ⟨(M.drop (.cons_cons _ (.cons_cons _ (.cons_cons _ (List.nil_sublist _))))), ?_⟩
 refine hl_end (by kernel_rfl) (by kernel_rfl) rfl <| rV 1 <| nT <| au_then <| wp_ret <| au_block_ret <| au_then_ret ?_
 have hg9 : gw (fun j => (pX (Y (K j)) (gn (K j))).ov nw) K gn SP.length = gw (fun j => (pX (Y (K j)) (gn (K j))).ov nw) K gn SQ.length := by rw [hj.len]
 rw [xw_gw, hg9] at hG2
 exact bodyPost_ret (v := .bool true) (results_tmp1 Tryz.results17 _ _ _ (by kernel_rfl)) (by kernel_rfl) ⟨_, rfl, ⟨gs, gr, _, _, N, _, tp, dp, Y, _, G2, H2, tv, Tt, xv, Tx, rfl, hG2, hH2, htv, hxv, (hj.keep (fun j => (pX (Y (K j)) (gn (K j))).ov nw)).more⟩, (M.drop (.cons _ (.cons _ (.cons_cons _ ((List.Sublist.refl G2).append (((List.Sublist.refl H2).append (List.sublist_append_right Tq _)).trans (List.sublist_append_right To _))))))).okT0⟩
theorem d_6N {z c gs gr N : Nat} {SP SQ : List Sl} {K tp dp : Nat → Nat} {Y : Nat → TS} {gn : Nat → Bool} {G H Tt Tx : List Blk} {tv xv : Value} (hG : IsPS gs SP N tp (fun k => pX (Y k) (gn k)) G) (hH : IsQS gr SQ N dp Y gn H) (htv : SlW 1 (vT tp N) N tv Tt) (hxv : SlW 1 (vT dp N) N xv Tx) (hj : Jt SP SQ K N tp dp Y c) {rc ct rk lf id nw : Nat} {zz : Int} {fi : Bool} (hx : (ix (fun j => decide (sI SQ j = id)) SQ.length) = -1) (w : World) (hL : Laid w)  (hT : There w (zO z gs gr tv xv :: (G ++ (H ++ (Tt ++ Tx))))) : Calls Tryz.prog 17 #[.pointer (some ⟨z, 0, none⟩), .agg (av 5 (ls (lR rc ct rk lf zz))), .agg (av 4 (ls (sR_ 6 id fi nw)))] w fun r w' => ∃ Z', r = .returned (.bool true) ∧ IsJ z (c + 1) Z' ∧ OkT w w' (zO z gs gr tv xv :: (G ++ (H ++ (Tt ++ Tx)))) Z' := by
 go_enter Tryz.func17, Tryz.ntmps17
 have M : Mem (zX w z gs gr tv xv (G ++ (H ++ (Tt ++ Tx)))) (zO z gs gr tv xv :: (G ++ (H ++ (Tt ++ Tx)))) w := Mem.startT hL hT
 obtain ⟨lQ, bQ, kQ, hlQ, hcQ⟩ := h_look hH
 have hl3 := hj.l3
 have hlen := hj.len
 refine sR <| pN M 4 (.cells (av 5 (ls (lR rc ct rk lf zz))) 26) fun g1 u1 M => ?_
 replace M := M.front
 replace M : Mem (zX w z gs gr tv xv (G ++ (H ++ (Tt ++ Tx)))) (lB g1 rc ct rk lf zz :: zO z gs gr tv xv :: (G ++ (H ++ (Tt ++ Tx)))) u1 := M
 refine pN M 5 (.cells (av 4 (ls (sR_ 6 id fi nw))) 69) fun g2 u2 M => ?_
 replace M := M.front
 replace M : Mem (zX w z gs gr tv xv (G ++ (H ++ (Tt ++ Tx)))) (sB g2 6 id fi nw :: lB g1 rc ct rk lf zz :: zO z gs gr tv xv :: (G ++ (H ++ (Tt ++ Tx)))) u2 := M
 refine rV 1 <| nT <| wp_seq <| rg_held M (sB g2 6 id fi nw :: lB g1 rc ct rk lf zz :: zO z gs gr tv xv :: (G ++ (H ++ (Tt ++ Tx)))) 7 rfl (by kernel_rfl) (by kernel_rfl) (fun _ _ d _ _ h => by cases d <;> exact h) fun u3 M => ?_
 replace M : Mem (zX w z gs gr tv xv (G ++ (H ++ (Tt ++ Tx)))) (sB g2 6 id fi nw :: lB g1 rc ct rk lf zz :: zO z gs gr tv xv :: (G ++ (H ++ (Tt ++ Tx)))) u3 := M
 refine qV M 0 36 (.pointer (some ⟨z, 0, none⟩)) <| qV M 1 37 (.pointer (some ⟨z, 0, none⟩)) <| qV M 2 38 (.pointer (some ⟨z, 1, none⟩)) <| hl_cell M 3 rfl (by decide) (by kernel_rfl) (by kernel_rfl) (want_no rfl) (some 39) rfl 58 _ rfl z 1 (by kernel_rfl) (.pointer (some ⟨gr, 0, none⟩)) (fun _ => by kernel_rfl) (fun w M => M.cell 2 rfl (by decide) rfl) <| qV M 4 40 (.pointer (some ⟨g2, 1, none⟩)) <| hl_cell M 5 rfl (by decide) (by kernel_rfl) (by kernel_rfl) (want_no rfl) (some 41) rfl 67 _ rfl g2 1 (by kernel_rfl) (.int .u32 (id : Int)) (fun _ => by kernel_rfl) (fun w M => M.cell 0 rfl (by decide) rfl) <| hl_one 6 (by decide) (by kernel_rfl) rfl <| pC M 42 34 #[.pointer (some ⟨gr, 0, none⟩), .int .u32 (id : Int)] (.int .i64 (-1)) (fun w M => call_val (h_Find hH (by omega) w M.laid (M.thereM (pre := (sB g2 6 id fi nw :: lB g1 rc ct rk lf zz :: zO z gs gr tv xv :: G)) (T := H) (suf := (Tt ++ Tx)) (by simp only [List.append_assoc, List.cons_append, List.nil_append, List.append_nil]))) (by rw [hx])) fun u4 M => nT ?_
 refine ⟨M, ?_⟩
 refine hl_end (by kernel_rfl) (by kernel_rfl) rfl <| rV 1 <| nT <| au_then <| wp_seq <| sR <| rV 1 <| ZE M 44 0 0 <| nT <| wp_block <| sq <| cF <| sq <| cF <| sq <| cF ?_
 refine sq <| cF <| sq <| cT <| wp_seq <| sq <| cT <| sq <| wp_ret <| au_then_ret <| au_block_ret <| au_then_ret ?_
 exact bodyPost_ret (v := .bool true) (results_tmp1 Tryz.results17 _ _ _ (by kernel_rfl)) (by kernel_rfl) ⟨_, rfl, ⟨gs, gr, SP, SQ, N, K, tp, dp, Y, gn, G, H, tv, Tt, xv, Tx, rfl, hG, hH, htv, hxv, hj.more⟩, ((M.drop (.cons _ (.cons _ (.cons_cons _ (List.Sublist.refl _)))))).okT0⟩
open Go.RowKit
def keyS (b : Bool) : ByteArray := if b = true then keyA else keyB
theorem keyS_size (b : Bool) : (keyS b).size = 32 := by
 cases b
 ·exact keyB_size
 ·exact keyA_size
theorem c_gotF (b : Bool) (w : World) (hL : Laid w) : Cs 20 #[.bool b] w (.agg (av 5 (ls [.string ⟨#[]⟩, .string ⟨#[]⟩, .string (keyS b), .string (keyS (!b)), .string ⟨#[]⟩]))) := by
 cases b
 ·exact c_gotB w hL
 ·exact c_gotA w hL
theorem infoTp : InfoK Tryz.prog 30 1 (.pointer none) := infoK (b := 8) (by kernel_rfl) (by kernel_rfl) (by kernel_rfl) (by decide)
theorem infoDp : InfoK Tryz.prog 32 1 (.pointer none) := infoK (b := 8) (by kernel_rfl) (by kernel_rfl) (by kernel_rfl) (by decide)
theorem md_of {rc ct rk lf s : Nat} (h3 : mbB rc ct rk lf = true) (hs : 1 ≤ s) (hs4 : s ≤ 4096) : mdB rc ct rk lf (s : Int) = true := by
 unfold mdB
 rw [h3, decide_eq_true (by omega)]
 rfl
theorem md_no {rc ct rk lf : Nat} {z : Int} (h : ¬ (mbB rc ct rk lf = true ∧ 1 ≤ z ∧ z ≤ 4096)) : ¬ mdB rc ct rk lf z = true := fun e => by
 unfold mdB at e
 rw [Bool.and_eq_true] at e
 exact h ⟨e.1, of_decide_eq_true e.2⟩
theorem ct_of {rc ct rk lf : Nat} (h : mbB rc ct rk lf = true) : ct ≤ 1152921504606846976 ∧ 1 ≤ lf ∧ 1 ≤ ct := by
 have := of_decide_eq_true h
 omega
theorem g_make {g N : Nat} {S : List Sl} {tp tp2 : Nat → Nat} {Y Y2 : Nat → TS} {gn gn2 : Nat → Bool} {G T : List Blk} {y : TS} (hG : IsPS g S N tp (fun k => pX (Y k) (gn k)) G) (hT : IsT (tp2 N) y T) (h1 : tp2 = upd tp N (tp2 N)) (h2 : Y2 = upd Y N y) (h3 : gn2 = upd gn N false) : IsPS g S (N + 1) tp2 (fun k => pX (Y2 k) (gn2 k)) (G ++ T) := by
 have h : IsPS g S (N + 1) (upd tp N (tp2 N)) (upd (fun k => pX (Y k) (gn k)) N (pX y false)) (G ++ T) := g_new hG hT
 rw [upd_pX, ← h1, ← h2, ← h3] at h
 exact h
theorem h_make {g N : Nat} {S : List Sl} {dp dp2 : Nat → Nat} {Y Y2 : Nat → TS} {gn gn2 : Nat → Bool} {H T : List Blk} {y : TS} (hH : IsQS g S N dp Y gn H) (hT : IsD (dp2 N) y false T) (h1 : dp2 = upd dp N (dp2 N)) (h2 : Y2 = upd Y N y) (h3 : gn2 = upd gn N false) : IsQS g S (N + 1) dp2 Y2 gn2 (H ++ T) := by
 have h := h_new hH hT
 rw [← h1, ← h2, ← h3] at h
 exact h
theorem vT_make {f f2 : Nat → Nat} {N : Nat} {v : Value} {T : List Blk} (h1 : f2 = upd f N (f2 N)) (h : SlW 1 (vT f N ++ [.pointer (some ⟨f2 N, 0, none⟩)]) (N + 1) v T) : SlW 1 (vT f2 (N + 1)) (N + 1) v T := by
 rw [h1, vT_new]
 exact h
theorem d_0B {z c gs gr N : Nat} {SP SQ : List Sl} {K tp dp : Nat → Nat} {Y : Nat → TS} {gn : Nat → Bool} {G H Tt Tx : List Blk} {tv xv : Value} (hG : IsPS gs SP N tp (fun k => pX (Y k) (gn k)) G) (hH : IsQS gr SQ N dp Y gn H) (htv : SlW 1 (vT tp N) N tv Tt) (hxv : SlW 1 (vT dp N) N xv Tx) (hj : Jt SP SQ K N tp dp Y c) {rc ct rk lf id nw : Nat} {zz : Int} {fi : Bool} {dd : Int} (hdd : dd < 1 ∨ 6 < dd) (hlim : ¬ (mbB rc ct rk lf = true ∧ 1 ≤ zz ∧ zz ≤ 4096)) (w : World) (hL : Laid w)  (hT : There w (zO z gs gr tv xv :: (G ++ (H ++ (Tt ++ Tx))))) : Calls Tryz.prog 17 #[.pointer (some ⟨z, 0, none⟩), .agg (av 5 (ls (lR rc ct rk lf zz))), .agg (av 4 (ls (sR_ dd id fi nw)))] w fun r w' => ∃ Z', r = .returned (.bool true) ∧ IsJ z (c + 1) Z' ∧ OkT w w' (zO z gs gr tv xv :: (G ++ (H ++ (Tt ++ Tx)))) Z' := by
 go_enter Tryz.func17, Tryz.ntmps17
 have M : Mem (zX w z gs gr tv xv (G ++ (H ++ (Tt ++ Tx)))) (zO z gs gr tv xv :: (G ++ (H ++ (Tt ++ Tx)))) w := Mem.startT hL hT
 obtain ⟨lQ, bQ, kQ, hlQ, hcQ⟩ := h_look hH
 have hl3 := hj.l3
 have hlen := hj.len
 refine sR ?_
 refine pN M 4 (.cells (av 5 (ls (lR rc ct rk lf zz))) 26) fun g1 u1 M => ?_
 replace M := M.front
 replace M : Mem (zX w z gs gr tv xv (G ++ (H ++ (Tt ++ Tx)))) (lB g1 rc ct rk lf zz :: zO z gs gr tv xv :: (G ++ (H ++ (Tt ++ Tx)))) u1 := M
 refine pN M 5 (.cells (av 4 (ls (sR_ dd id fi nw))) 69) fun g2 u2 M => ?_
 replace M := M.front
 replace M : Mem (zX w z gs gr tv xv (G ++ (H ++ (Tt ++ Tx)))) (sB g2 dd id fi nw :: lB g1 rc ct rk lf zz :: zO z gs gr tv xv :: (G ++ (H ++ (Tt ++ Tx)))) u2 := M
 refine rV 1 <| nT <| wp_seq ?_
 refine rg_held M (sB g2 dd id fi nw :: lB g1 rc ct rk lf zz :: zO z gs gr tv xv :: (G ++ (H ++ (Tt ++ Tx)))) 7 rfl (by kernel_rfl) (by kernel_rfl) (fun _ _ d _ _ h => by cases d <;> exact h) fun u3 M => ?_
 replace M : Mem (zX w z gs gr tv xv (G ++ (H ++ (Tt ++ Tx)))) (sB g2 dd id fi nw :: lB g1 rc ct rk lf zz :: zO z gs gr tv xv :: (G ++ (H ++ (Tt ++ Tx)))) u3 := M
 refine qV M 0 36 (.pointer (some ⟨z, 0, none⟩)) ?_
 refine qV M 1 37 (.pointer (some ⟨z, 0, none⟩)) ?_
 refine qV M 2 38 (.pointer (some ⟨z, 1, none⟩)) ?_
 refine hl_cell M 3 rfl (by decide) (by kernel_rfl) (by kernel_rfl) (want_no rfl) (some 39) rfl 58 _ rfl z 1 (by kernel_rfl) (.pointer (some ⟨gr, 0, none⟩)) (fun _ => by kernel_rfl) (fun w M => M.cell 2 rfl (by decide) rfl) ?_
 refine qV M 4 40 (.pointer (some ⟨g2, 1, none⟩)) ?_
 refine hl_cell M 5 rfl (by decide) (by kernel_rfl) (by kernel_rfl) (want_no rfl) (some 41) rfl 67 _ rfl g2 1 (by kernel_rfl) (.int .u32 (id : Int)) (fun _ => by kernel_rfl) (fun w M => M.cell 0 rfl (by decide) rfl) ?_
 refine hl_one 6 (by decide) (by kernel_rfl) rfl ?_
 refine pC M 42 34 #[.pointer (some ⟨gr, 0, none⟩), .int .u32 (id : Int)] (.int .i64 (ix (fun j => decide (sI SQ j = id)) SQ.length)) (fun w M => h_Find hH (by omega) w M.laid (M.thereM (pre := (sB g2 dd id fi nw :: lB g1 rc ct rk lf zz :: zO z gs gr tv xv :: G)) (T := H) (suf := (Tt ++ Tx)) (by simp only [List.append_assoc, List.cons_append, List.nil_append, List.append_nil]))) fun u4 M => ?_
 refine nT ?_
 refine ⟨M, ?_⟩
 refine hl_end (by kernel_rfl) (by kernel_rfl) rfl ?_
 refine rV 1 <| nT <| au_then <| wp_seq <| sR ?_
 refine rV 1 <| ZE M 44 0 0 <| nT ?_
 refine wp_block ?_
 refine sR ?_
 by_cases c0 : dd = 1
 ·exfalso; omega
 ·refine pH 46 (.bool false) (jF (dd = 1) (c0)) ?_
  refine rV 1 <| nT <| cF <| sR ?_
  by_cases c1 : dd = 2
  ·exfalso; omega
  ·refine pH 84 (.bool false) (jF (dd = 2) (c1)) ?_
   refine rV 1 <| nT <| cF <| sR ?_
   by_cases c2 : dd = 3
   ·exfalso; omega
   ·refine pH 149 (.bool false) (jF (dd = 3) (c2)) ?_
    refine rV 1 <| nT <| cF <| sR ?_
    by_cases c3 : dd = 4
    ·exfalso; omega
    ·refine pH 166 (.bool false) (jF (dd = 4) (c3)) ?_
     refine rV 1 <| nT <| cF <| sR ?_
     by_cases c4 : dd = 6
     ·exfalso; omega
     ·refine pH 176 (.bool false) (jF (dd = 6) (c4)) ?_
      refine rV 1 <| nT <| cF <| sR ?_
      by_cases c5 : dd = 5
      ·exfalso; omega
      ·refine pH 231 (.bool false) (jF (dd = 5) (c5)) ?_
       refine rV 1 <| nT <| cF <| wp_skip ?_
       refine au_block ?_
       refine au_then <| wp_seq ?_
       refine rg_held M (sB g2 dd id fi nw :: lB g1 rc ct rk lf zz :: zO z gs gr tv xv :: (G ++ (H ++ (Tt ++ Tx)))) 13 rfl (by kernel_rfl) (by kernel_rfl) (fun _ _ d _ _ h => by cases d <;> exact h) fun u5 M => ?_
       replace M : Mem (zX w z gs gr tv xv (G ++ (H ++ (Tt ++ Tx)))) (sB g2 dd id fi nw :: lB g1 rc ct rk lf zz :: zO z gs gr tv xv :: (G ++ (H ++ (Tt ++ Tx)))) u5 := M
       refine qV M 0 316 (.pointer (some ⟨g2, 2, none⟩)) ?_
       refine hl_cell M 1 rfl (by decide) (by kernel_rfl) (by kernel_rfl) (want_no rfl) (some 317) rfl 4 _ rfl g2 2 (by kernel_rfl) (.bool (fi)) (fun _ => by kernel_rfl) (fun w M => M.cell 0 rfl (by decide) rfl) ?_
       refine qV M 3 319 (.pointer (some ⟨g2, 2, none⟩)) ?_
       refine hl_cell M 4 rfl (by decide) (by kernel_rfl) (by kernel_rfl) (want_no rfl) (some 320) rfl 4 _ rfl g2 2 (by kernel_rfl) (.bool (fi)) (fun _ => by kernel_rfl) (fun w M => M.cell 0 rfl (by decide) rfl) ?_
       refine qV M 5 321 (.pointer (some ⟨g2, 3, none⟩)) ?_
       refine hl_cell M 6 rfl (by decide) (by kernel_rfl) (by kernel_rfl) (want_no rfl) (some 322) rfl 24 _ rfl g2 3 (by kernel_rfl) (.int .u64 (nw : Int)) (fun _ => by kernel_rfl) (fun w M => M.cell 0 rfl (by decide) rfl) ?_
       refine hl_load M 7 rfl (by decide) (by kernel_rfl) (by kernel_rfl) (want_no rfl) (some 323) rfl 26 _ rfl 1 g1 0 (by kernel_rfl) 5 26 (ls (lR rc ct rk lf zz)) rfl 5 (ls (lR rc ct rk lf zz)) (fun j _ => by rw [Nat.zero_add]) (by decide) _ Tryz.underlying26 rfl inz26 ?_
       refine hl_one 2 (by decide) (by kernel_rfl) rfl ?_
       refine ZC M 318 (fun w M => c_gotF fi w M.laid) fun u6 M => ?_
       refine nT ?_
       refine ⟨M, ?_⟩
       refine hl_one 8 (by decide) (by kernel_rfl) rfl ?_
       refine ZC M 324 (fun w M => c_TNewE (y0 := ⟨#[]⟩) (y1 := ⟨#[]⟩) (sd := keyS fi) (rv := keyS (!fi)) (y4 := ⟨#[]⟩) (fi := fi) (mt := nw) (rc := rc) (ct := ct) (rk := rk) (lf := lf) (z := zz) (fun _ _ h => Classical.byContradiction fun hc => hlim ⟨h, by omega, by omega⟩) w M.laid) fun u7 M => ?_
       refine nT ?_
       refine ⟨M, ?_⟩
       refine qV M 9 315 (.tuple #[.pointer none, .int .i64 2]) ?_
       refine qV M 10 325 (.pointer none) ?_
       refine qV M 11 326 (.int .i64 2) ?_
       refine qV M 12 32 (.pointer none) ?_
       refine hl_end (by kernel_rfl) (by kernel_rfl) rfl ?_
       refine rV 1 <| nT <| au_then <| wp_seq ?_
       refine rg_held M (sB g2 dd id fi nw :: lB g1 rc ct rk lf zz :: zO z gs gr tv xv :: (G ++ (H ++ (Tt ++ Tx)))) 13 rfl (by kernel_rfl) (by kernel_rfl) (fun _ _ d _ _ h => by cases d <;> exact h) fun u8 M => ?_
       replace M : Mem (zX w z gs gr tv xv (G ++ (H ++ (Tt ++ Tx)))) (sB g2 dd id fi nw :: lB g1 rc ct rk lf zz :: zO z gs gr tv xv :: (G ++ (H ++ (Tt ++ Tx)))) u8 := M
       refine qV M 0 328 (.pointer (some ⟨g2, 2, none⟩)) ?_
       refine hl_cell M 1 rfl (by decide) (by kernel_rfl) (by kernel_rfl) (want_no rfl) (some 329) rfl 4 _ rfl g2 2 (by kernel_rfl) (.bool (fi)) (fun _ => by kernel_rfl) (fun w M => M.cell 0 rfl (by decide) rfl) ?_
       refine qV M 3 331 (.pointer (some ⟨g2, 2, none⟩)) ?_
       refine hl_cell M 4 rfl (by decide) (by kernel_rfl) (by kernel_rfl) (want_no rfl) (some 332) rfl 4 _ rfl g2 2 (by kernel_rfl) (.bool (fi)) (fun _ => by kernel_rfl) (fun w M => M.cell 0 rfl (by decide) rfl) ?_
       refine qV M 5 333 (.pointer (some ⟨g2, 3, none⟩)) ?_
       refine hl_cell M 6 rfl (by decide) (by kernel_rfl) (by kernel_rfl) (want_no rfl) (some 334) rfl 24 _ rfl g2 3 (by kernel_rfl) (.int .u64 (nw : Int)) (fun _ => by kernel_rfl) (fun w M => M.cell 0 rfl (by decide) rfl) ?_
       refine hl_load M 7 rfl (by decide) (by kernel_rfl) (by kernel_rfl) (want_no rfl) (some 335) rfl 26 _ rfl 1 g1 0 (by kernel_rfl) 5 26 (ls (lR rc ct rk lf zz)) rfl 5 (ls (lR rc ct rk lf zz)) (fun j _ => by rw [Nat.zero_add]) (by decide) _ Tryz.underlying26 rfl inz26 ?_
       refine hl_one 2 (by decide) (by kernel_rfl) rfl ?_
       refine ZC M 330 (fun w M => c_gotF fi w M.laid) fun u9 M => ?_
       refine nT ?_
       refine ⟨M, ?_⟩
       refine hl_one 8 (by decide) (by kernel_rfl) rfl ?_
       refine ZC M 336 (fun w M => d_NewE (y0 := ⟨#[]⟩) (y1 := ⟨#[]⟩) (sd := keyS fi) (rv := keyS (!fi)) (y4 := ⟨#[]⟩) (fi := fi) (mt := nw) (rc := rc) (ct := ct) (rk := rk) (lf := lf) (z := zz) (fun _ _ => md_no hlim) w M.laid) fun u10 M => ?_
       refine nT ?_
       refine ⟨M, ?_⟩
       refine qV M 9 327 (.tuple #[.pointer none, .int .i64 2]) ?_
       refine qV M 10 337 (.pointer none) ?_
       refine qV M 11 338 (.int .i64 2) ?_
       refine qV M 12 34 (.pointer none) ?_
       refine hl_end (by kernel_rfl) (by kernel_rfl) rfl ?_
       refine rV 1 <| nT <| au_then <| wp_seq <| sq ?_
       refine cF <| wp_skip <| au_then <| wp_seq <| sq ?_
       refine cT <| sq <| wp_ret <| au_then_ret ?_
       exact bodyPost_ret (v := .bool true) (results_tmp1 Tryz.results17 _ _ _ (by kernel_rfl)) (by kernel_rfl) ⟨_, rfl, ⟨gs, gr, SP, SQ, N, K, tp, dp, Y, gn, G, H, tv, Tt, xv, Tx, rfl, hG, hH, htv, hxv, hj.more⟩, ((M.drop (.cons _ (.cons _ (.cons_cons _ (List.Sublist.refl _)))))).okT0⟩
theorem upd_same {α : Type} (f : Nat → α) (k : Nat) : upd f k (f k) = f := by
 funext i
 by_cases c : i = k
 ·subst c
  rw [upd_self]
 ·rw [upd_other _ _ c]
theorem d_0A {z c gs gr N : Nat} {SP SQ : List Sl} {K tp dp : Nat → Nat} {Y : Nat → TS} {gn : Nat → Bool} {G H Tt Tx : List Blk} {tv xv : Value} (hG : IsPS gs SP N tp (fun k => pX (Y k) (gn k)) G) (hH : IsQS gr SQ N dp Y gn H) (htv : SlW 1 (vT tp N) N tv Tt) (hxv : SlW 1 (vT dp N) N xv Tx) (hj : Jt SP SQ K N tp dp Y c) {rc ct rk lf id nw : Nat} {zz : Int} {fi : Bool} {dd : Int} (hdd : dd < 1 ∨ 6 < dd) {s : Nat} (hzs : (s : Int) = zz) (hmb : mbB rc ct rk lf = true) (hs : 1 ≤ s) (hs4 : s ≤ 4096) (hc : c < 10000) {i : Nat} (hi : i < SP.length) (hid : sI SP i = id) (h0 : ∀ j, j < i → ¬ sI SP j = id) (w : World) (hL : Laid w)  (hT : There w (zO z gs gr tv xv :: (G ++ (H ++ (Tt ++ Tx))))) : Calls Tryz.prog 17 #[.pointer (some ⟨z, 0, none⟩), .agg (av 5 (ls (lR rc ct rk lf zz))), .agg (av 4 (ls (sR_ dd id fi nw)))] w fun r w' => ∃ Z', r = .returned (.bool true) ∧ IsJ z (c + 1) Z' ∧ OkT w w' (zO z gs gr tv xv :: (G ++ (H ++ (Tt ++ Tx)))) Z' := by
 go_enter Tryz.func17, Tryz.ntmps17
 have M : Mem (zX w z gs gr tv xv (G ++ (H ++ (Tt ++ Tx)))) (zO z gs gr tv xv :: (G ++ (H ++ (Tt ++ Tx)))) w := Mem.startT hL hT
 obtain ⟨lQ, bQ, kQ, hlQ, hcQ⟩ := h_look hH
 have hl3 := hj.l3
 have hlen := hj.len
 refine sR ?_
 refine pN M 4 (.cells (av 5 (ls (lR rc ct rk lf zz))) 26) fun g1 u1 M => ?_
 replace M := M.front
 replace M : Mem (zX w z gs gr tv xv (G ++ (H ++ (Tt ++ Tx)))) (lB g1 rc ct rk lf zz :: zO z gs gr tv xv :: (G ++ (H ++ (Tt ++ Tx)))) u1 := M
 refine pN M 5 (.cells (av 4 (ls (sR_ dd id fi nw))) 69) fun g2 u2 M => ?_
 replace M := M.front
 replace M : Mem (zX w z gs gr tv xv (G ++ (H ++ (Tt ++ Tx)))) (sB g2 dd id fi nw :: lB g1 rc ct rk lf zz :: zO z gs gr tv xv :: (G ++ (H ++ (Tt ++ Tx)))) u2 := M
 refine rV 1 <| nT <| wp_seq ?_
 refine rg_held M (sB g2 dd id fi nw :: lB g1 rc ct rk lf zz :: zO z gs gr tv xv :: (G ++ (H ++ (Tt ++ Tx)))) 7 rfl (by kernel_rfl) (by kernel_rfl) (fun _ _ d _ _ h => by cases d <;> exact h) fun u3 M => ?_
 replace M : Mem (zX w z gs gr tv xv (G ++ (H ++ (Tt ++ Tx)))) (sB g2 dd id fi nw :: lB g1 rc ct rk lf zz :: zO z gs gr tv xv :: (G ++ (H ++ (Tt ++ Tx)))) u3 := M
 refine qV M 0 36 (.pointer (some ⟨z, 0, none⟩)) ?_
 refine qV M 1 37 (.pointer (some ⟨z, 0, none⟩)) ?_
 refine qV M 2 38 (.pointer (some ⟨z, 1, none⟩)) ?_
 refine hl_cell M 3 rfl (by decide) (by kernel_rfl) (by kernel_rfl) (want_no rfl) (some 39) rfl 58 _ rfl z 1 (by kernel_rfl) (.pointer (some ⟨gr, 0, none⟩)) (fun _ => by kernel_rfl) (fun w M => M.cell 2 rfl (by decide) rfl) ?_
 refine qV M 4 40 (.pointer (some ⟨g2, 1, none⟩)) ?_
 refine hl_cell M 5 rfl (by decide) (by kernel_rfl) (by kernel_rfl) (want_no rfl) (some 41) rfl 67 _ rfl g2 1 (by kernel_rfl) (.int .u32 (id : Int)) (fun _ => by kernel_rfl) (fun w M => M.cell 0 rfl (by decide) rfl) ?_
 refine hl_one 6 (by decide) (by kernel_rfl) rfl ?_
 refine pC M 42 34 #[.pointer (some ⟨gr, 0, none⟩), .int .u32 (id : Int)] (.int .i64 (ix (fun j => decide (sI SQ j = id)) SQ.length)) (fun w M => h_Find hH (by omega) w M.laid (M.thereM (pre := (sB g2 dd id fi nw :: lB g1 rc ct rk lf zz :: zO z gs gr tv xv :: G)) (T := H) (suf := (Tt ++ Tx)) (by simp only [List.append_assoc, List.cons_append, List.nil_append, List.append_nil]))) fun u4 M => ?_
 refine nT ?_
 refine ⟨M, ?_⟩
 refine hl_end (by kernel_rfl) (by kernel_rfl) rfl ?_
 refine rV 1 <| nT <| au_then <| wp_seq <| sR ?_
 refine rV 1 <| ZE M 44 0 0 <| nT ?_
 refine wp_block ?_
 refine sR ?_
 by_cases c0 : dd = 1
 ·exfalso; omega
 ·refine pH 46 (.bool false) (jF (dd = 1) (c0)) ?_
  refine rV 1 <| nT <| cF <| sR ?_
  by_cases c1 : dd = 2
  ·exfalso; omega
  ·refine pH 84 (.bool false) (jF (dd = 2) (c1)) ?_
   refine rV 1 <| nT <| cF <| sR ?_
   by_cases c2 : dd = 3
   ·exfalso; omega
   ·refine pH 149 (.bool false) (jF (dd = 3) (c2)) ?_
    refine rV 1 <| nT <| cF <| sR ?_
    by_cases c3 : dd = 4
    ·exfalso; omega
    ·refine pH 166 (.bool false) (jF (dd = 4) (c3)) ?_
     refine rV 1 <| nT <| cF <| sR ?_
     by_cases c4 : dd = 6
     ·exfalso; omega
     ·refine pH 176 (.bool false) (jF (dd = 6) (c4)) ?_
      refine rV 1 <| nT <| cF <| sR ?_
      by_cases c5 : dd = 5
      ·exfalso; omega
      ·refine pH 231 (.bool false) (jF (dd = 5) (c5)) ?_
       refine rV 1 <| nT <| cF <| wp_skip ?_
       refine au_block ?_
       refine au_then <| wp_seq ?_
       refine rg_held M [sB g2 dd id fi nw, lB g1 rc ct rk lf zz, zO z gs gr tv xv] 13 rfl (by kernel_rfl) (by kernel_rfl) (fun _ _ d _ _ h => by cases d <;> exact h) fun u5 M => ?_
       replace M : Mem (zX w z gs gr tv xv (G ++ (H ++ (Tt ++ Tx)))) (sB g2 dd id fi nw :: lB g1 rc ct rk lf zz :: zO z gs gr tv xv :: (G ++ (H ++ (Tt ++ Tx)))) u5 := M
       refine qV (M.drop (.cons_cons _ (.cons_cons _ (.cons_cons _ (List.nil_sublist _))))) 0 316 (.pointer (some ⟨g2, 2, none⟩)) ?_
       refine hl_cell (M.drop (.cons_cons _ (.cons_cons _ (.cons_cons _ (List.nil_sublist _))))) 1 rfl (by decide) (by kernel_rfl) (by kernel_rfl) (want_no rfl) (some 317) rfl 4 _ rfl g2 2 (by kernel_rfl) (.bool (fi)) (fun _ => by kernel_rfl) (fun w M => M.cell 0 rfl (by decide) rfl) ?_
       refine qV (M.drop (.cons_cons _ (.cons_cons _ (.cons_cons _ (List.nil_sublist _))))) 3 319 (.pointer (some ⟨g2, 2, none⟩)) ?_
       refine hl_cell (M.drop (.cons_cons _ (.cons_cons _ (.cons_cons _ (List.nil_sublist _))))) 4 rfl (by decide) (by kernel_rfl) (by kernel_rfl) (want_no rfl) (some 320) rfl 4 _ rfl g2 2 (by kernel_rfl) (.bool (fi)) (fun _ => by kernel_rfl) (fun w M => M.cell 0 rfl (by decide) rfl) ?_
       refine qV (M.drop (.cons_cons _ (.cons_cons _ (.cons_cons _ (List.nil_sublist _))))) 5 321 (.pointer (some ⟨g2, 3, none⟩)) ?_
       refine hl_cell (M.drop (.cons_cons _ (.cons_cons _ (.cons_cons _ (List.nil_sublist _))))) 6 rfl (by decide) (by kernel_rfl) (by kernel_rfl) (want_no rfl) (some 322) rfl 24 _ rfl g2 3 (by kernel_rfl) (.int .u64 (nw : Int)) (fun _ => by kernel_rfl) (fun w M => M.cell 0 rfl (by decide) rfl) ?_
       refine hl_load (M.drop (.cons_cons _ (.cons_cons _ (.cons_cons _ (List.nil_sublist _))))) 7 rfl (by decide) (by kernel_rfl) (by kernel_rfl) (want_no rfl) (some 323) rfl 26 _ rfl 1 g1 0 (by kernel_rfl) 5 26 (ls (lR rc ct rk lf zz)) rfl 5 (ls (lR rc ct rk lf zz)) (fun j _ => by rw [Nat.zero_add]) (by decide) _ Tryz.underlying26 rfl inz26 ?_
       refine hl_one 2 (by decide) (by kernel_rfl) rfl ?_
       refine ZC M 318 (fun w M => c_gotF fi w M.laid) fun u6 M => ?_
       refine nT ?_
       refine ⟨(M.drop (.cons_cons _ (.cons_cons _ (.cons_cons _ (List.nil_sublist _))))), ?_⟩
       refine hl_one 8 (by decide) (by kernel_rfl) rfl ?_
       refine pl_callM M (want_no rfl) (some 324) rfl 7 #[.agg (av 5 (ls [.string ⟨#[]⟩, .string ⟨#[]⟩, .string (keyS fi), .string (keyS (!fi)), .string ⟨#[]⟩])), .bool (fi), .int .u64 (nw : Int), .agg (av 5 (ls (lR rc ct rk lf zz)))] (sB g2 dd id fi nw :: lB g1 rc ct rk lf zz :: zO z gs gr tv xv :: G) [] ((H ++ (Tt ++ Tx))) (by simp only [List.append_assoc, List.cons_append, List.nil_append, List.append_nil]) (fun x : Nat × List Blk => .tuple #[.pointer (some ⟨x.1, 0, none⟩), .int .i64 0]) (fun x : Nat × List Blk => x.2) (fun x : Nat × List Blk => IsT x.1 ⟨rc, ct, rk, lf, s, 0, nw, keyS fi, keyS (!fi), fi, fi, []⟩ x.2) (fun _ => by kernel_rfl) (fun w hL hT => by rw [← hzs]; exact a_New (keyS_size _) (keyS_size _) hmb hs hs4 w hL) ?_
       rintro ⟨t, Tn⟩ u7 hIT M
       replace M : Mem (zX w z gs gr tv xv (G ++ (H ++ (Tt ++ Tx)))) (sB g2 dd id fi nw :: lB g1 rc ct rk lf zz :: zO z gs gr tv xv :: (G ++ (Tn ++ (H ++ (Tt ++ Tx))))) u7 := by simpa only [List.append_assoc, List.cons_append, List.nil_append, List.append_nil] using M
       refine nT ?_
       refine ⟨(M.drop (.cons_cons _ (.cons_cons _ (.cons_cons _ (List.nil_sublist _))))), ?_⟩
       refine qV (M.drop (.cons_cons _ (.cons_cons _ (.cons_cons _ (List.nil_sublist _))))) 9 315 (.tuple #[.pointer (some ⟨t, 0, none⟩), .int .i64 0]) ?_
       refine qV (M.drop (.cons_cons _ (.cons_cons _ (.cons_cons _ (List.nil_sublist _))))) 10 325 (.pointer (some ⟨t, 0, none⟩)) ?_
       refine qV (M.drop (.cons_cons _ (.cons_cons _ (.cons_cons _ (List.nil_sublist _))))) 11 326 (.int .i64 0) ?_
       refine qV (M.drop (.cons_cons _ (.cons_cons _ (.cons_cons _ (List.nil_sublist _))))) 12 32 (.pointer (some ⟨t, 0, none⟩)) ?_
       refine hl_end (by kernel_rfl) (by kernel_rfl) rfl ?_
       refine rV 1 <| nT <| au_then <| wp_seq ?_
       refine rg_held M [sB g2 dd id fi nw, lB g1 rc ct rk lf zz, zO z gs gr tv xv] 13 rfl (by kernel_rfl) (by kernel_rfl) (fun _ _ d _ _ h => by cases d <;> exact h) fun u8 M => ?_
       replace M : Mem (zX w z gs gr tv xv (G ++ (H ++ (Tt ++ Tx)))) (sB g2 dd id fi nw :: lB g1 rc ct rk lf zz :: zO z gs gr tv xv :: (G ++ (Tn ++ (H ++ (Tt ++ Tx))))) u8 := M
       refine qV (M.drop (.cons_cons _ (.cons_cons _ (.cons_cons _ (List.nil_sublist _))))) 0 328 (.pointer (some ⟨g2, 2, none⟩)) ?_
       refine hl_cell (M.drop (.cons_cons _ (.cons_cons _ (.cons_cons _ (List.nil_sublist _))))) 1 rfl (by decide) (by kernel_rfl) (by kernel_rfl) (want_no rfl) (some 329) rfl 4 _ rfl g2 2 (by kernel_rfl) (.bool (fi)) (fun _ => by kernel_rfl) (fun w M => M.cell 0 rfl (by decide) rfl) ?_
       refine qV (M.drop (.cons_cons _ (.cons_cons _ (.cons_cons _ (List.nil_sublist _))))) 3 331 (.pointer (some ⟨g2, 2, none⟩)) ?_
       refine hl_cell (M.drop (.cons_cons _ (.cons_cons _ (.cons_cons _ (List.nil_sublist _))))) 4 rfl (by decide) (by kernel_rfl) (by kernel_rfl) (want_no rfl) (some 332) rfl 4 _ rfl g2 2 (by kernel_rfl) (.bool (fi)) (fun _ => by kernel_rfl) (fun w M => M.cell 0 rfl (by decide) rfl) ?_
       refine qV (M.drop (.cons_cons _ (.cons_cons _ (.cons_cons _ (List.nil_sublist _))))) 5 333 (.pointer (some ⟨g2, 3, none⟩)) ?_
       refine hl_cell (M.drop (.cons_cons _ (.cons_cons _ (.cons_cons _ (List.nil_sublist _))))) 6 rfl (by decide) (by kernel_rfl) (by kernel_rfl) (want_no rfl) (some 334) rfl 24 _ rfl g2 3 (by kernel_rfl) (.int .u64 (nw : Int)) (fun _ => by kernel_rfl) (fun w M => M.cell 0 rfl (by decide) rfl) ?_
       refine hl_load (M.drop (.cons_cons _ (.cons_cons _ (.cons_cons _ (List.nil_sublist _))))) 7 rfl (by decide) (by kernel_rfl) (by kernel_rfl) (want_no rfl) (some 335) rfl 26 _ rfl 1 g1 0 (by kernel_rfl) 5 26 (ls (lR rc ct rk lf zz)) rfl 5 (ls (lR rc ct rk lf zz)) (fun j _ => by rw [Nat.zero_add]) (by decide) _ Tryz.underlying26 rfl inz26 ?_
       refine hl_one 2 (by decide) (by kernel_rfl) rfl ?_
       refine ZC M 330 (fun w M => c_gotF fi w M.laid) fun u9 M => ?_
       refine nT ?_
       refine ⟨(M.drop (.cons_cons _ (.cons_cons _ (.cons_cons _ (List.nil_sublist _))))), ?_⟩
       refine hl_one 8 (by decide) (by kernel_rfl) rfl ?_
       refine pl_callM M (want_no rfl) (some 336) rfl 8 #[.agg (av 5 (ls [.string ⟨#[]⟩, .string ⟨#[]⟩, .string (keyS fi), .string (keyS (!fi)), .string ⟨#[]⟩])), .bool (fi), .int .u64 (nw : Int), .agg (av 5 (ls (lR rc ct rk lf zz)))] (sB g2 dd id fi nw :: lB g1 rc ct rk lf zz :: zO z gs gr tv xv :: (G ++ (Tn ++ H))) [] ((Tt ++ Tx)) (by simp only [List.append_assoc, List.cons_append, List.nil_append, List.append_nil]) (fun x : Nat × List Blk => .tuple #[.pointer (some ⟨x.1, 0, none⟩), .int .i64 0]) (fun x : Nat × List Blk => x.2) (fun x : Nat × List Blk => IsD x.1 ⟨rc, ct, rk, lf, s, 0, nw, keyS fi, keyS (!fi), fi, fi, []⟩ false x.2) (fun _ => by kernel_rfl) (fun w hL hT => by rw [← hzs]; exact d_New (keyS_size _) (keyS_size _) (md_of hmb hs hs4) w hL) ?_
       rintro ⟨d, Dn⟩ u10 hID M
       replace M : Mem (zX w z gs gr tv xv (G ++ (H ++ (Tt ++ Tx)))) (sB g2 dd id fi nw :: lB g1 rc ct rk lf zz :: zO z gs gr tv xv :: (G ++ (Tn ++ (H ++ (Dn ++ (Tt ++ Tx)))))) u10 := by simpa only [List.append_assoc, List.cons_append, List.nil_append, List.append_nil] using M
       refine nT ?_
       refine ⟨(M.drop (.cons_cons _ (.cons_cons _ (.cons_cons _ (List.nil_sublist _))))), ?_⟩
       refine qV (M.drop (.cons_cons _ (.cons_cons _ (.cons_cons _ (List.nil_sublist _))))) 9 327 (.tuple #[.pointer (some ⟨d, 0, none⟩), .int .i64 0]) ?_
       refine qV (M.drop (.cons_cons _ (.cons_cons _ (.cons_cons _ (List.nil_sublist _))))) 10 337 (.pointer (some ⟨d, 0, none⟩)) ?_
       refine qV (M.drop (.cons_cons _ (.cons_cons _ (.cons_cons _ (List.nil_sublist _))))) 11 338 (.int .i64 0) ?_
       refine qV (M.drop (.cons_cons _ (.cons_cons _ (.cons_cons _ (List.nil_sublist _))))) 12 34 (.pointer (some ⟨d, 0, none⟩)) ?_
       refine hl_end (by kernel_rfl) (by kernel_rfl) rfl ?_
       refine rV 1 <| nT ?_
       obtain ⟨tp2, htp2⟩ : ∃ f, f = upd tp N t := ⟨_, rfl⟩
       have etp2 : t = tp2 N := by rw [htp2, upd_self]
       subst etp2
       obtain ⟨dp2, hdp2⟩ : ∃ f, f = upd dp N d := ⟨_, rfl⟩
       have edp2 : d = dp2 N := by rw [hdp2, upd_self]
       subst edp2
       obtain ⟨Y2, hY2⟩ : ∃ f, f = upd Y N ⟨rc, ct, rk, lf, s, 0, nw, keyS fi, keyS (!fi), fi, fi, []⟩ := ⟨_, rfl⟩
       obtain ⟨gn2, hgn2⟩ : ∃ f, f = upd gn N false := ⟨_, rfl⟩
       have hG1 := g_make hG hIT htp2 hY2 hgn2
       have hH1 := h_make hH hID hdp2 hY2 hgn2
       have hj1 : Jt SP SQ K (N + 1) tp2 dp2 Y2 (c + 1) := by have h := hj.make (t := tp2 N) (d := dp2 N) (y := ⟨rc, ct, rk, lf, s, 0, nw, keyS fi, keyS (!fi), fi, fi, []⟩) ⟨⟨hs, hs4, (ct_of hmb).1, Nat.zero_le _⟩, keyS_size fi, keyS_size (!fi), Nat.zero_lt_succ _, fun _ h => by cases h⟩ (Nat.zero_le _); rw [← htp2, ← hdp2, ← hY2] at h; exact h
       replace M : Mem (zX w z gs gr tv xv (G ++ (H ++ (Tt ++ Tx)))) (sB g2 dd id fi nw :: lB g1 rc ct rk lf zz :: zO z gs gr tv xv :: ((G ++ Tn) ++ ((H ++ Dn) ++ (Tt ++ Tx)))) u10 := by simpa only [List.append_assoc, List.cons_append, List.nil_append, List.append_nil] using M
       have hnN := hj.nN
       refine au_then <| wp_seq <| sq <| cF <| wp_skip ?_
       refine au_then <| wp_seq <| sq <| cF <| wp_skip ?_
       refine au_then <| sR <| rV 4 <| ZE M 348 2 2 <| rV 1 ?_
       refine ZM M 350 (fun g3 => .slice (some ⟨g3, 0, none⟩) 1 1) (.cells (av 1 (ls [.pointer (some ⟨(tp2 N), 0, none⟩)])) 30) fun g3 u11 M => ?_
       replace M := M.front
       replace M : Mem (zX w z gs gr tv xv (G ++ (H ++ (Tt ++ Tx)))) (pB g3 (tp2 N) 30 :: sB g2 dd id fi nw :: lB g1 rc ct rk lf zz :: zO z gs gr tv xv :: ((G ++ Tn) ++ ((H ++ Dn) ++ (Tt ++ Tx)))) u11 := M
       refine pl_appW M (want_no rfl) (some 351) rfl 62 62 30 1 (.pointer none) Tryz.underlying62 infoTp rfl (pB g3 (tp2 N) 30 :: sB g2 dd id fi nw :: lB g1 rc ct rk lf zz :: zO z gs gr tv xv :: ((G ++ Tn) ++ (H ++ Dn))) Tt Tx (by simp only [List.append_assoc, List.cons_append, List.nil_append, List.append_nil]) tv N (vT tp N) htv (by omega) 0 g3 30 (ls [.pointer (some ⟨(tp2 N), 0, none⟩)]) rfl (one_ls _ rfl) (fun _ => by kernel_rfl) ?_
       intro tv2 Tt2 u12 ht2 M
       replace M : Mem (zX w z gs gr tv xv (G ++ (H ++ (Tt ++ Tx)))) (pB g3 (tp2 N) 30 :: sB g2 dd id fi nw :: lB g1 rc ct rk lf zz :: zO z gs gr tv xv :: ((G ++ Tn) ++ ((H ++ Dn) ++ (Tt2 ++ Tx)))) u12 := by simpa only [List.append_assoc, List.cons_append, List.nil_append, List.append_nil] using M
       have ht3 := vT_make htp2 ht2
       refine rV 2 ?_
       refine (pl_put1 M (want_no rfl) rfl 62 _ _ rfl 3 z 2 (by kernel_rfl) 4 65 (ls [.pointer (some ⟨gs, 0, none⟩), .pointer (some ⟨gr, 0, none⟩), tv, xv]) rfl (tv2) (ls [.pointer (some ⟨gs, 0, none⟩), .pointer (some ⟨gr, 0, none⟩), tv2, xv]) (by kernel_rfl) inz62 (by decide) (slw_one ht2) (slw_cells ht2) (put_ls _ 2 _ _ rfl) ?_)
       intro u13 M
       replace M : Mem (zX w z gs gr tv xv (G ++ (H ++ (Tt ++ Tx)))) (pB g3 (tp2 N) 30 :: sB g2 dd id fi nw :: lB g1 rc ct rk lf zz :: zO z gs gr tv2 xv :: ((G ++ Tn) ++ ((H ++ Dn) ++ (Tt2 ++ Tx)))) u13 := M
       refine nT <| sR <| rV 4 <| ZE M 358 3 3 <| rV 1 ?_
       refine ZM M 360 (fun g4 => .slice (some ⟨g4, 0, none⟩) 1 1) (.cells (av 1 (ls [.pointer (some ⟨(dp2 N), 0, none⟩)])) 32) fun g4 u14 M => ?_
       replace M := M.front
       replace M : Mem (zX w z gs gr tv xv (G ++ (H ++ (Tt ++ Tx)))) (pB g4 (dp2 N) 32 :: pB g3 (tp2 N) 30 :: sB g2 dd id fi nw :: lB g1 rc ct rk lf zz :: zO z gs gr tv2 xv :: ((G ++ Tn) ++ ((H ++ Dn) ++ (Tt2 ++ Tx)))) u14 := M
       refine pl_appW M (want_no rfl) (some 361) rfl 63 63 32 1 (.pointer none) Tryz.underlying63 infoDp rfl (pB g4 (dp2 N) 32 :: pB g3 (tp2 N) 30 :: sB g2 dd id fi nw :: lB g1 rc ct rk lf zz :: zO z gs gr tv2 xv :: ((G ++ Tn) ++ ((H ++ Dn) ++ Tt2))) Tx [] (by simp only [List.append_assoc, List.cons_append, List.nil_append, List.append_nil]) xv N (vT dp N) hxv (by omega) 0 g4 32 (ls [.pointer (some ⟨(dp2 N), 0, none⟩)]) rfl (one_ls _ rfl) (fun _ => by kernel_rfl) ?_
       intro xv2 Tx2 u15 hx2 M
       replace M : Mem (zX w z gs gr tv xv (G ++ (H ++ (Tt ++ Tx)))) (pB g4 (dp2 N) 32 :: pB g3 (tp2 N) 30 :: sB g2 dd id fi nw :: lB g1 rc ct rk lf zz :: zO z gs gr tv2 xv :: ((G ++ Tn) ++ ((H ++ Dn) ++ (Tt2 ++ Tx2)))) u15 := by simpa only [List.append_assoc, List.cons_append, List.nil_append, List.append_nil] using M
       have hx3 := vT_make hdp2 hx2
       refine rV 2 ?_
       refine (pl_put1 M (want_no rfl) rfl 63 _ _ rfl 4 z 3 (by kernel_rfl) 4 65 (ls [.pointer (some ⟨gs, 0, none⟩), .pointer (some ⟨gr, 0, none⟩), tv2, xv]) rfl (xv2) (ls [.pointer (some ⟨gs, 0, none⟩), .pointer (some ⟨gr, 0, none⟩), tv2, xv2]) (by kernel_rfl) inz63 (by decide) (slw_one hx2) (slw_cells hx2) (put_ls _ 3 _ _ rfl) ?_)
       intro u16 M
       replace M : Mem (zX w z gs gr tv xv (G ++ (H ++ (Tt ++ Tx)))) (pB g4 (dp2 N) 32 :: pB g3 (tp2 N) 30 :: sB g2 dd id fi nw :: lB g1 rc ct rk lf zz :: zO z gs gr tv2 xv2 :: ((G ++ Tn) ++ ((H ++ Dn) ++ (Tt2 ++ Tx2)))) u16 := M
       refine nT <| wp_seq ?_
       refine rg_held M [pB g4 (dp2 N) 32, pB g3 (tp2 N) 30, sB g2 dd id fi nw, lB g1 rc ct rk lf zz, zO z gs gr tv2 xv2] 17 rfl (by kernel_rfl) (by kernel_rfl) (fun _ _ d _ _ h => by cases d <;> exact h) fun u17 M => ?_
       replace M : Mem (zX w z gs gr tv xv (G ++ (H ++ (Tt ++ Tx)))) (pB g4 (dp2 N) 32 :: pB g3 (tp2 N) 30 :: sB g2 dd id fi nw :: lB g1 rc ct rk lf zz :: zO z gs gr tv2 xv2 :: ((G ++ Tn) ++ ((H ++ Dn) ++ (Tt2 ++ Tx2)))) u17 := M
       refine qV (M.drop (.cons_cons _ (.cons_cons _ (.cons_cons _ (.cons_cons _ (.cons_cons _ (List.nil_sublist _))))))) 0 364 (.pointer (some ⟨z, 0, none⟩)) ?_
       refine qV (M.drop (.cons_cons _ (.cons_cons _ (.cons_cons _ (.cons_cons _ (.cons_cons _ (List.nil_sublist _))))))) 1 365 (.pointer (some ⟨z, 0, none⟩)) ?_
       refine qV (M.drop (.cons_cons _ (.cons_cons _ (.cons_cons _ (.cons_cons _ (.cons_cons _ (List.nil_sublist _))))))) 2 366 (.pointer (some ⟨z, 0, none⟩)) ?_
       refine hl_cell (M.drop (.cons_cons _ (.cons_cons _ (.cons_cons _ (.cons_cons _ (.cons_cons _ (List.nil_sublist _))))))) 3 rfl (by decide) (by kernel_rfl) (by kernel_rfl) (want_no rfl) (some 367) rfl 56 _ rfl z 0 (by kernel_rfl) (.pointer (some ⟨gs, 0, none⟩)) (fun _ => by kernel_rfl) (fun w M => M.cell 4 rfl (by decide) rfl) ?_
       refine qV (M.drop (.cons_cons _ (.cons_cons _ (.cons_cons _ (.cons_cons _ (.cons_cons _ (List.nil_sublist _))))))) 4 368 (.pointer (some ⟨g2, 1, none⟩)) ?_
       refine hl_cell (M.drop (.cons_cons _ (.cons_cons _ (.cons_cons _ (.cons_cons _ (.cons_cons _ (List.nil_sublist _))))))) 5 rfl (by decide) (by kernel_rfl) (by kernel_rfl) (want_no rfl) (some 369) rfl 67 _ rfl g2 1 (by kernel_rfl) (.int .u32 (id : Int)) (fun _ => by kernel_rfl) (fun w M => M.cell 2 rfl (by decide) rfl) ?_
       refine qV (M.drop (.cons_cons _ (.cons_cons _ (.cons_cons _ (.cons_cons _ (.cons_cons _ (List.nil_sublist _))))))) 6 370 (.pointer (some ⟨(tp2 N), 0, none⟩)) ?_
       refine qV (M.drop (.cons_cons _ (.cons_cons _ (.cons_cons _ (.cons_cons _ (.cons_cons _ (List.nil_sublist _))))))) 8 372 (.pointer (some ⟨z, 0, none⟩)) ?_
       refine qV (M.drop (.cons_cons _ (.cons_cons _ (.cons_cons _ (.cons_cons _ (.cons_cons _ (List.nil_sublist _))))))) 9 373 (.pointer (some ⟨z, 0, none⟩)) ?_
       refine qV (M.drop (.cons_cons _ (.cons_cons _ (.cons_cons _ (.cons_cons _ (.cons_cons _ (List.nil_sublist _))))))) 10 374 (.pointer (some ⟨z, 1, none⟩)) ?_
       refine hl_cell (M.drop (.cons_cons _ (.cons_cons _ (.cons_cons _ (.cons_cons _ (.cons_cons _ (List.nil_sublist _))))))) 11 rfl (by decide) (by kernel_rfl) (by kernel_rfl) (want_no rfl) (some 375) rfl 58 _ rfl z 1 (by kernel_rfl) (.pointer (some ⟨gr, 0, none⟩)) (fun _ => by kernel_rfl) (fun w M => M.cell 4 rfl (by decide) rfl) ?_
       refine qV (M.drop (.cons_cons _ (.cons_cons _ (.cons_cons _ (.cons_cons _ (.cons_cons _ (List.nil_sublist _))))))) 12 376 (.pointer (some ⟨g2, 1, none⟩)) ?_
       refine hl_cell (M.drop (.cons_cons _ (.cons_cons _ (.cons_cons _ (.cons_cons _ (.cons_cons _ (List.nil_sublist _))))))) 13 rfl (by decide) (by kernel_rfl) (by kernel_rfl) (want_no rfl) (some 377) rfl 67 _ rfl g2 1 (by kernel_rfl) (.int .u32 (id : Int)) (fun _ => by kernel_rfl) (fun w M => M.cell 2 rfl (by decide) rfl) ?_
       refine qV (M.drop (.cons_cons _ (.cons_cons _ (.cons_cons _ (.cons_cons _ (.cons_cons _ (List.nil_sublist _))))))) 14 378 (.pointer (some ⟨(dp2 N), 0, none⟩)) ?_
       refine hl_one 7 (by decide) (by kernel_rfl) rfl ?_
       refine pC M 371 41 #[.pointer (some ⟨gs, 0, none⟩), .int .u32 (id : Int), .pointer (some ⟨(tp2 N), 0, none⟩)] (.int .i64 9) (fun w M => g_PutA hG1 (by omega) (Nat.lt_succ_self N) hi hid h0 w M.laid (M.thereM (pre := [pB g4 (dp2 N) 32, pB g3 (tp2 N) 30, sB g2 dd id fi nw, lB g1 rc ct rk lf zz, zO z gs gr tv2 xv2]) (T := (G ++ Tn)) (suf := ((H ++ Dn) ++ (Tt2 ++ Tx2))) (by simp only [List.append_assoc, List.cons_append, List.nil_append, List.append_nil]))) fun u18 M => ?_
       refine nT ?_
       refine ⟨(M.drop (.cons_cons _ (.cons_cons _ (.cons_cons _ (.cons_cons _ (.cons_cons _ (List.nil_sublist _))))))), ?_⟩
       refine hl_one 15 (by decide) (by kernel_rfl) rfl ?_
       refine pC M 379 42 #[.pointer (some ⟨gr, 0, none⟩), .int .u32 (id : Int), .pointer (some ⟨(dp2 N), 0, none⟩)] (.int .i64 9) (fun w M => h_PutA (m := N) (i := i) hH1 (by omega) (by omega) (by rw [hj.ids i hi]; exact hid) (fun j hj2 => by rw [hj.ids j (by omega)]; exact h0 j hj2) w M.laid (M.thereM (pre := (pB g4 (dp2 N) 32 :: pB g3 (tp2 N) 30 :: sB g2 dd id fi nw :: lB g1 rc ct rk lf zz :: zO z gs gr tv2 xv2 :: (G ++ Tn))) (T := (H ++ Dn)) (suf := (Tt2 ++ Tx2)) (by simp only [List.append_assoc, List.cons_append, List.nil_append, List.append_nil]))) fun u19 M => ?_
       refine nT ?_
       refine ⟨(M.drop (.cons_cons _ (.cons_cons _ (.cons_cons _ (.cons_cons _ (.cons_cons _ (List.nil_sublist _))))))), ?_⟩
       refine qV (M.drop (.cons_cons _ (.cons_cons _ (.cons_cons _ (.cons_cons _ (.cons_cons _ (List.nil_sublist _))))))) 16 380 (.bool true) ?_
       refine hl_end (by kernel_rfl) (by kernel_rfl) rfl ?_
       refine rV 1 <| nT <| au_then <| wp_ret ?_
       exact bodyPost_ret (v := .bool true) (results_tmp1 Tryz.results17 _ _ _ (by kernel_rfl)) (by kernel_rfl) ⟨_, rfl, ⟨gs, gr, _, _, N + 1, _, tp2, dp2, Y2, _, (G ++ Tn), (H ++ Dn), tv2, Tt2, xv2, Tx2, rfl, hG1, hH1, ht3, hx3, hj1⟩, ((M.drop (.cons _ (.cons _ (.cons _ (.cons _ (.cons_cons _ (List.Sublist.refl _)))))))).okT0⟩
theorem d_0P {z c gs gr N : Nat} {SP SQ : List Sl} {K tp dp : Nat → Nat} {Y : Nat → TS} {gn : Nat → Bool} {G H Tt Tx : List Blk} {tv xv : Value} (hG : IsPS gs SP N tp (fun k => pX (Y k) (gn k)) G) (hH : IsQS gr SQ N dp Y gn H) (htv : SlW 1 (vT tp N) N tv Tt) (hxv : SlW 1 (vT dp N) N xv Tx) (hj : Jt SP SQ K N tp dp Y c) {rc ct rk lf id nw : Nat} {zz : Int} {fi : Bool} {dd : Int} (hdd : dd < 1 ∨ 6 < dd) {s : Nat} (hzs : (s : Int) = zz) (hmb : mbB rc ct rk lf = true) (hs : 1 ≤ s) (hs4 : s ≤ 4096) (hc : c < 10000) (hno : ∀ j, j < SP.length → ¬ sI SP j = id) (h3 : SP.length < 3) (w : World) (hL : Laid w)  (hT : There w (zO z gs gr tv xv :: (G ++ (H ++ (Tt ++ Tx))))) : Calls Tryz.prog 17 #[.pointer (some ⟨z, 0, none⟩), .agg (av 5 (ls (lR rc ct rk lf zz))), .agg (av 4 (ls (sR_ dd id fi nw)))] w fun r w' => ∃ Z', r = .returned (.bool true) ∧ IsJ z (c + 1) Z' ∧ OkT w w' (zO z gs gr tv xv :: (G ++ (H ++ (Tt ++ Tx)))) Z' := by
 go_enter Tryz.func17, Tryz.ntmps17
 have M : Mem (zX w z gs gr tv xv (G ++ (H ++ (Tt ++ Tx)))) (zO z gs gr tv xv :: (G ++ (H ++ (Tt ++ Tx)))) w := Mem.startT hL hT
 obtain ⟨lQ, bQ, kQ, hlQ, hcQ⟩ := h_look hH
 have hl3 := hj.l3
 have hlen := hj.len
 refine sR ?_
 refine pN M 4 (.cells (av 5 (ls (lR rc ct rk lf zz))) 26) fun g1 u1 M => ?_
 replace M := M.front
 replace M : Mem (zX w z gs gr tv xv (G ++ (H ++ (Tt ++ Tx)))) (lB g1 rc ct rk lf zz :: zO z gs gr tv xv :: (G ++ (H ++ (Tt ++ Tx)))) u1 := M
 refine pN M 5 (.cells (av 4 (ls (sR_ dd id fi nw))) 69) fun g2 u2 M => ?_
 replace M := M.front
 replace M : Mem (zX w z gs gr tv xv (G ++ (H ++ (Tt ++ Tx)))) (sB g2 dd id fi nw :: lB g1 rc ct rk lf zz :: zO z gs gr tv xv :: (G ++ (H ++ (Tt ++ Tx)))) u2 := M
 refine rV 1 <| nT <| wp_seq ?_
 refine rg_held M (sB g2 dd id fi nw :: lB g1 rc ct rk lf zz :: zO z gs gr tv xv :: (G ++ (H ++ (Tt ++ Tx)))) 7 rfl (by kernel_rfl) (by kernel_rfl) (fun _ _ d _ _ h => by cases d <;> exact h) fun u3 M => ?_
 replace M : Mem (zX w z gs gr tv xv (G ++ (H ++ (Tt ++ Tx)))) (sB g2 dd id fi nw :: lB g1 rc ct rk lf zz :: zO z gs gr tv xv :: (G ++ (H ++ (Tt ++ Tx)))) u3 := M
 refine qV M 0 36 (.pointer (some ⟨z, 0, none⟩)) ?_
 refine qV M 1 37 (.pointer (some ⟨z, 0, none⟩)) ?_
 refine qV M 2 38 (.pointer (some ⟨z, 1, none⟩)) ?_
 refine hl_cell M 3 rfl (by decide) (by kernel_rfl) (by kernel_rfl) (want_no rfl) (some 39) rfl 58 _ rfl z 1 (by kernel_rfl) (.pointer (some ⟨gr, 0, none⟩)) (fun _ => by kernel_rfl) (fun w M => M.cell 2 rfl (by decide) rfl) ?_
 refine qV M 4 40 (.pointer (some ⟨g2, 1, none⟩)) ?_
 refine hl_cell M 5 rfl (by decide) (by kernel_rfl) (by kernel_rfl) (want_no rfl) (some 41) rfl 67 _ rfl g2 1 (by kernel_rfl) (.int .u32 (id : Int)) (fun _ => by kernel_rfl) (fun w M => M.cell 0 rfl (by decide) rfl) ?_
 refine hl_one 6 (by decide) (by kernel_rfl) rfl ?_
 refine pC M 42 34 #[.pointer (some ⟨gr, 0, none⟩), .int .u32 (id : Int)] (.int .i64 (ix (fun j => decide (sI SQ j = id)) SQ.length)) (fun w M => h_Find hH (by omega) w M.laid (M.thereM (pre := (sB g2 dd id fi nw :: lB g1 rc ct rk lf zz :: zO z gs gr tv xv :: G)) (T := H) (suf := (Tt ++ Tx)) (by simp only [List.append_assoc, List.cons_append, List.nil_append, List.append_nil]))) fun u4 M => ?_
 refine nT ?_
 refine ⟨M, ?_⟩
 refine hl_end (by kernel_rfl) (by kernel_rfl) rfl ?_
 refine rV 1 <| nT <| au_then <| wp_seq <| sR ?_
 refine rV 1 <| ZE M 44 0 0 <| nT ?_
 refine wp_block ?_
 refine sR ?_
 by_cases c0 : dd = 1
 ·exfalso; omega
 ·refine pH 46 (.bool false) (jF (dd = 1) (c0)) ?_
  refine rV 1 <| nT <| cF <| sR ?_
  by_cases c1 : dd = 2
  ·exfalso; omega
  ·refine pH 84 (.bool false) (jF (dd = 2) (c1)) ?_
   refine rV 1 <| nT <| cF <| sR ?_
   by_cases c2 : dd = 3
   ·exfalso; omega
   ·refine pH 149 (.bool false) (jF (dd = 3) (c2)) ?_
    refine rV 1 <| nT <| cF <| sR ?_
    by_cases c3 : dd = 4
    ·exfalso; omega
    ·refine pH 166 (.bool false) (jF (dd = 4) (c3)) ?_
     refine rV 1 <| nT <| cF <| sR ?_
     by_cases c4 : dd = 6
     ·exfalso; omega
     ·refine pH 176 (.bool false) (jF (dd = 6) (c4)) ?_
      refine rV 1 <| nT <| cF <| sR ?_
      by_cases c5 : dd = 5
      ·exfalso; omega
      ·refine pH 231 (.bool false) (jF (dd = 5) (c5)) ?_
       refine rV 1 <| nT <| cF <| wp_skip ?_
       refine au_block ?_
       refine au_then <| wp_seq ?_
       refine rg_held M [sB g2 dd id fi nw, lB g1 rc ct rk lf zz, zO z gs gr tv xv] 13 rfl (by kernel_rfl) (by kernel_rfl) (fun _ _ d _ _ h => by cases d <;> exact h) fun u5 M => ?_
       replace M : Mem (zX w z gs gr tv xv (G ++ (H ++ (Tt ++ Tx)))) (sB g2 dd id fi nw :: lB g1 rc ct rk lf zz :: zO z gs gr tv xv :: (G ++ (H ++ (Tt ++ Tx)))) u5 := M
       refine qV (M.drop (.cons_cons _ (.cons_cons _ (.cons_cons _ (List.nil_sublist _))))) 0 316 (.pointer (some ⟨g2, 2, none⟩)) ?_
       refine hl_cell (M.drop (.cons_cons _ (.cons_cons _ (.cons_cons _ (List.nil_sublist _))))) 1 rfl (by decide) (by kernel_rfl) (by kernel_rfl) (want_no rfl) (some 317) rfl 4 _ rfl g2 2 (by kernel_rfl) (.bool (fi)) (fun _ => by kernel_rfl) (fun w M => M.cell 0 rfl (by decide) rfl) ?_
       refine qV (M.drop (.cons_cons _ (.cons_cons _ (.cons_cons _ (List.nil_sublist _))))) 3 319 (.pointer (some ⟨g2, 2, none⟩)) ?_
       refine hl_cell (M.drop (.cons_cons _ (.cons_cons _ (.cons_cons _ (List.nil_sublist _))))) 4 rfl (by decide) (by kernel_rfl) (by kernel_rfl) (want_no rfl) (some 320) rfl 4 _ rfl g2 2 (by kernel_rfl) (.bool (fi)) (fun _ => by kernel_rfl) (fun w M => M.cell 0 rfl (by decide) rfl) ?_
       refine qV (M.drop (.cons_cons _ (.cons_cons _ (.cons_cons _ (List.nil_sublist _))))) 5 321 (.pointer (some ⟨g2, 3, none⟩)) ?_
       refine hl_cell (M.drop (.cons_cons _ (.cons_cons _ (.cons_cons _ (List.nil_sublist _))))) 6 rfl (by decide) (by kernel_rfl) (by kernel_rfl) (want_no rfl) (some 322) rfl 24 _ rfl g2 3 (by kernel_rfl) (.int .u64 (nw : Int)) (fun _ => by kernel_rfl) (fun w M => M.cell 0 rfl (by decide) rfl) ?_
       refine hl_load (M.drop (.cons_cons _ (.cons_cons _ (.cons_cons _ (List.nil_sublist _))))) 7 rfl (by decide) (by kernel_rfl) (by kernel_rfl) (want_no rfl) (some 323) rfl 26 _ rfl 1 g1 0 (by kernel_rfl) 5 26 (ls (lR rc ct rk lf zz)) rfl 5 (ls (lR rc ct rk lf zz)) (fun j _ => by rw [Nat.zero_add]) (by decide) _ Tryz.underlying26 rfl inz26 ?_
       refine hl_one 2 (by decide) (by kernel_rfl) rfl ?_
       refine ZC M 318 (fun w M => c_gotF fi w M.laid) fun u6 M => ?_
       refine nT ?_
       refine ⟨(M.drop (.cons_cons _ (.cons_cons _ (.cons_cons _ (List.nil_sublist _))))), ?_⟩
       refine hl_one 8 (by decide) (by kernel_rfl) rfl ?_
       refine pl_callM M (want_no rfl) (some 324) rfl 7 #[.agg (av 5 (ls [.string ⟨#[]⟩, .string ⟨#[]⟩, .string (keyS fi), .string (keyS (!fi)), .string ⟨#[]⟩])), .bool (fi), .int .u64 (nw : Int), .agg (av 5 (ls (lR rc ct rk lf zz)))] (sB g2 dd id fi nw :: lB g1 rc ct rk lf zz :: zO z gs gr tv xv :: G) [] ((H ++ (Tt ++ Tx))) (by simp only [List.append_assoc, List.cons_append, List.nil_append, List.append_nil]) (fun x : Nat × List Blk => .tuple #[.pointer (some ⟨x.1, 0, none⟩), .int .i64 0]) (fun x : Nat × List Blk => x.2) (fun x : Nat × List Blk => IsT x.1 ⟨rc, ct, rk, lf, s, 0, nw, keyS fi, keyS (!fi), fi, fi, []⟩ x.2) (fun _ => by kernel_rfl) (fun w hL hT => by rw [← hzs]; exact a_New (keyS_size _) (keyS_size _) hmb hs hs4 w hL) ?_
       rintro ⟨t, Tn⟩ u7 hIT M
       replace M : Mem (zX w z gs gr tv xv (G ++ (H ++ (Tt ++ Tx)))) (sB g2 dd id fi nw :: lB g1 rc ct rk lf zz :: zO z gs gr tv xv :: (G ++ (Tn ++ (H ++ (Tt ++ Tx))))) u7 := by simpa only [List.append_assoc, List.cons_append, List.nil_append, List.append_nil] using M
       refine nT ?_
       refine ⟨(M.drop (.cons_cons _ (.cons_cons _ (.cons_cons _ (List.nil_sublist _))))), ?_⟩
       refine qV (M.drop (.cons_cons _ (.cons_cons _ (.cons_cons _ (List.nil_sublist _))))) 9 315 (.tuple #[.pointer (some ⟨t, 0, none⟩), .int .i64 0]) ?_
       refine qV (M.drop (.cons_cons _ (.cons_cons _ (.cons_cons _ (List.nil_sublist _))))) 10 325 (.pointer (some ⟨t, 0, none⟩)) ?_
       refine qV (M.drop (.cons_cons _ (.cons_cons _ (.cons_cons _ (List.nil_sublist _))))) 11 326 (.int .i64 0) ?_
       refine qV (M.drop (.cons_cons _ (.cons_cons _ (.cons_cons _ (List.nil_sublist _))))) 12 32 (.pointer (some ⟨t, 0, none⟩)) ?_
       refine hl_end (by kernel_rfl) (by kernel_rfl) rfl ?_
       refine rV 1 <| nT <| au_then <| wp_seq ?_
       refine rg_held M [sB g2 dd id fi nw, lB g1 rc ct rk lf zz, zO z gs gr tv xv] 13 rfl (by kernel_rfl) (by kernel_rfl) (fun _ _ d _ _ h => by cases d <;> exact h) fun u8 M => ?_
       replace M : Mem (zX w z gs gr tv xv (G ++ (H ++ (Tt ++ Tx)))) (sB g2 dd id fi nw :: lB g1 rc ct rk lf zz :: zO z gs gr tv xv :: (G ++ (Tn ++ (H ++ (Tt ++ Tx))))) u8 := M
       refine qV (M.drop (.cons_cons _ (.cons_cons _ (.cons_cons _ (List.nil_sublist _))))) 0 328 (.pointer (some ⟨g2, 2, none⟩)) ?_
       refine hl_cell (M.drop (.cons_cons _ (.cons_cons _ (.cons_cons _ (List.nil_sublist _))))) 1 rfl (by decide) (by kernel_rfl) (by kernel_rfl) (want_no rfl) (some 329) rfl 4 _ rfl g2 2 (by kernel_rfl) (.bool (fi)) (fun _ => by kernel_rfl) (fun w M => M.cell 0 rfl (by decide) rfl) ?_
       refine qV (M.drop (.cons_cons _ (.cons_cons _ (.cons_cons _ (List.nil_sublist _))))) 3 331 (.pointer (some ⟨g2, 2, none⟩)) ?_
       refine hl_cell (M.drop (.cons_cons _ (.cons_cons _ (.cons_cons _ (List.nil_sublist _))))) 4 rfl (by decide) (by kernel_rfl) (by kernel_rfl) (want_no rfl) (some 332) rfl 4 _ rfl g2 2 (by kernel_rfl) (.bool (fi)) (fun _ => by kernel_rfl) (fun w M => M.cell 0 rfl (by decide) rfl) ?_
       refine qV (M.drop (.cons_cons _ (.cons_cons _ (.cons_cons _ (List.nil_sublist _))))) 5 333 (.pointer (some ⟨g2, 3, none⟩)) ?_
       refine hl_cell (M.drop (.cons_cons _ (.cons_cons _ (.cons_cons _ (List.nil_sublist _))))) 6 rfl (by decide) (by kernel_rfl) (by kernel_rfl) (want_no rfl) (some 334) rfl 24 _ rfl g2 3 (by kernel_rfl) (.int .u64 (nw : Int)) (fun _ => by kernel_rfl) (fun w M => M.cell 0 rfl (by decide) rfl) ?_
       refine hl_load (M.drop (.cons_cons _ (.cons_cons _ (.cons_cons _ (List.nil_sublist _))))) 7 rfl (by decide) (by kernel_rfl) (by kernel_rfl) (want_no rfl) (some 335) rfl 26 _ rfl 1 g1 0 (by kernel_rfl) 5 26 (ls (lR rc ct rk lf zz)) rfl 5 (ls (lR rc ct rk lf zz)) (fun j _ => by rw [Nat.zero_add]) (by decide) _ Tryz.underlying26 rfl inz26 ?_
       refine hl_one 2 (by decide) (by kernel_rfl) rfl ?_
       refine ZC M 330 (fun w M => c_gotF fi w M.laid) fun u9 M => ?_
       refine nT ?_
       refine ⟨(M.drop (.cons_cons _ (.cons_cons _ (.cons_cons _ (List.nil_sublist _))))), ?_⟩
       refine hl_one 8 (by decide) (by kernel_rfl) rfl ?_
       refine pl_callM M (want_no rfl) (some 336) rfl 8 #[.agg (av 5 (ls [.string ⟨#[]⟩, .string ⟨#[]⟩, .string (keyS fi), .string (keyS (!fi)), .string ⟨#[]⟩])), .bool (fi), .int .u64 (nw : Int), .agg (av 5 (ls (lR rc ct rk lf zz)))] (sB g2 dd id fi nw :: lB g1 rc ct rk lf zz :: zO z gs gr tv xv :: (G ++ (Tn ++ H))) [] ((Tt ++ Tx)) (by simp only [List.append_assoc, List.cons_append, List.nil_append, List.append_nil]) (fun x : Nat × List Blk => .tuple #[.pointer (some ⟨x.1, 0, none⟩), .int .i64 0]) (fun x : Nat × List Blk => x.2) (fun x : Nat × List Blk => IsD x.1 ⟨rc, ct, rk, lf, s, 0, nw, keyS fi, keyS (!fi), fi, fi, []⟩ false x.2) (fun _ => by kernel_rfl) (fun w hL hT => by rw [← hzs]; exact d_New (keyS_size _) (keyS_size _) (md_of hmb hs hs4) w hL) ?_
       rintro ⟨d, Dn⟩ u10 hID M
       replace M : Mem (zX w z gs gr tv xv (G ++ (H ++ (Tt ++ Tx)))) (sB g2 dd id fi nw :: lB g1 rc ct rk lf zz :: zO z gs gr tv xv :: (G ++ (Tn ++ (H ++ (Dn ++ (Tt ++ Tx)))))) u10 := by simpa only [List.append_assoc, List.cons_append, List.nil_append, List.append_nil] using M
       refine nT ?_
       refine ⟨(M.drop (.cons_cons _ (.cons_cons _ (.cons_cons _ (List.nil_sublist _))))), ?_⟩
       refine qV (M.drop (.cons_cons _ (.cons_cons _ (.cons_cons _ (List.nil_sublist _))))) 9 327 (.tuple #[.pointer (some ⟨d, 0, none⟩), .int .i64 0]) ?_
       refine qV (M.drop (.cons_cons _ (.cons_cons _ (.cons_cons _ (List.nil_sublist _))))) 10 337 (.pointer (some ⟨d, 0, none⟩)) ?_
       refine qV (M.drop (.cons_cons _ (.cons_cons _ (.cons_cons _ (List.nil_sublist _))))) 11 338 (.int .i64 0) ?_
       refine qV (M.drop (.cons_cons _ (.cons_cons _ (.cons_cons _ (List.nil_sublist _))))) 12 34 (.pointer (some ⟨d, 0, none⟩)) ?_
       refine hl_end (by kernel_rfl) (by kernel_rfl) rfl ?_
       refine rV 1 <| nT ?_
       obtain ⟨tp2, htp2⟩ : ∃ f, f = upd tp N t := ⟨_, rfl⟩
       have etp2 : t = tp2 N := by rw [htp2, upd_self]
       subst etp2
       obtain ⟨dp2, hdp2⟩ : ∃ f, f = upd dp N d := ⟨_, rfl⟩
       have edp2 : d = dp2 N := by rw [hdp2, upd_self]
       subst edp2
       obtain ⟨Y2, hY2⟩ : ∃ f, f = upd Y N ⟨rc, ct, rk, lf, s, 0, nw, keyS fi, keyS (!fi), fi, fi, []⟩ := ⟨_, rfl⟩
       obtain ⟨gn2, hgn2⟩ : ∃ f, f = upd gn N false := ⟨_, rfl⟩
       have hG1 := g_make hG hIT htp2 hY2 hgn2
       have hH1 := h_make hH hID hdp2 hY2 hgn2
       have hj1 : Jt SP SQ K (N + 1) tp2 dp2 Y2 (c + 1) := by have h := hj.make (t := tp2 N) (d := dp2 N) (y := ⟨rc, ct, rk, lf, s, 0, nw, keyS fi, keyS (!fi), fi, fi, []⟩) ⟨⟨hs, hs4, (ct_of hmb).1, Nat.zero_le _⟩, keyS_size fi, keyS_size (!fi), Nat.zero_lt_succ _, fun _ h => by cases h⟩ (Nat.zero_le _); rw [← htp2, ← hdp2, ← hY2] at h; exact h
       replace M : Mem (zX w z gs gr tv xv (G ++ (H ++ (Tt ++ Tx)))) (sB g2 dd id fi nw :: lB g1 rc ct rk lf zz :: zO z gs gr tv xv :: ((G ++ Tn) ++ ((H ++ Dn) ++ (Tt ++ Tx)))) u10 := by simpa only [List.append_assoc, List.cons_append, List.nil_append, List.append_nil] using M
       have hnN := hj.nN
       refine au_then <| wp_seq <| sq <| cF <| wp_skip ?_
       refine au_then <| wp_seq <| sq <| cF <| wp_skip ?_
       refine au_then <| sR <| rV 4 <| ZE M 348 2 2 <| rV 1 ?_
       refine ZM M 350 (fun g3 => .slice (some ⟨g3, 0, none⟩) 1 1) (.cells (av 1 (ls [.pointer (some ⟨(tp2 N), 0, none⟩)])) 30) fun g3 u11 M => ?_
       replace M := M.front
       replace M : Mem (zX w z gs gr tv xv (G ++ (H ++ (Tt ++ Tx)))) (pB g3 (tp2 N) 30 :: sB g2 dd id fi nw :: lB g1 rc ct rk lf zz :: zO z gs gr tv xv :: ((G ++ Tn) ++ ((H ++ Dn) ++ (Tt ++ Tx)))) u11 := M
       refine pl_appW M (want_no rfl) (some 351) rfl 62 62 30 1 (.pointer none) Tryz.underlying62 infoTp rfl (pB g3 (tp2 N) 30 :: sB g2 dd id fi nw :: lB g1 rc ct rk lf zz :: zO z gs gr tv xv :: ((G ++ Tn) ++ (H ++ Dn))) Tt Tx (by simp only [List.append_assoc, List.cons_append, List.nil_append, List.append_nil]) tv N (vT tp N) htv (by omega) 0 g3 30 (ls [.pointer (some ⟨(tp2 N), 0, none⟩)]) rfl (one_ls _ rfl) (fun _ => by kernel_rfl) ?_
       intro tv2 Tt2 u12 ht2 M
       replace M : Mem (zX w z gs gr tv xv (G ++ (H ++ (Tt ++ Tx)))) (pB g3 (tp2 N) 30 :: sB g2 dd id fi nw :: lB g1 rc ct rk lf zz :: zO z gs gr tv xv :: ((G ++ Tn) ++ ((H ++ Dn) ++ (Tt2 ++ Tx)))) u12 := by simpa only [List.append_assoc, List.cons_append, List.nil_append, List.append_nil] using M
       have ht3 := vT_make htp2 ht2
       refine rV 2 ?_
       refine (pl_put1 M (want_no rfl) rfl 62 _ _ rfl 3 z 2 (by kernel_rfl) 4 65 (ls [.pointer (some ⟨gs, 0, none⟩), .pointer (some ⟨gr, 0, none⟩), tv, xv]) rfl (tv2) (ls [.pointer (some ⟨gs, 0, none⟩), .pointer (some ⟨gr, 0, none⟩), tv2, xv]) (by kernel_rfl) inz62 (by decide) (slw_one ht2) (slw_cells ht2) (put_ls _ 2 _ _ rfl) ?_)
       intro u13 M
       replace M : Mem (zX w z gs gr tv xv (G ++ (H ++ (Tt ++ Tx)))) (pB g3 (tp2 N) 30 :: sB g2 dd id fi nw :: lB g1 rc ct rk lf zz :: zO z gs gr tv2 xv :: ((G ++ Tn) ++ ((H ++ Dn) ++ (Tt2 ++ Tx)))) u13 := M
       refine nT <| sR <| rV 4 <| ZE M 358 3 3 <| rV 1 ?_
       refine ZM M 360 (fun g4 => .slice (some ⟨g4, 0, none⟩) 1 1) (.cells (av 1 (ls [.pointer (some ⟨(dp2 N), 0, none⟩)])) 32) fun g4 u14 M => ?_
       replace M := M.front
       replace M : Mem (zX w z gs gr tv xv (G ++ (H ++ (Tt ++ Tx)))) (pB g4 (dp2 N) 32 :: pB g3 (tp2 N) 30 :: sB g2 dd id fi nw :: lB g1 rc ct rk lf zz :: zO z gs gr tv2 xv :: ((G ++ Tn) ++ ((H ++ Dn) ++ (Tt2 ++ Tx)))) u14 := M
       refine pl_appW M (want_no rfl) (some 361) rfl 63 63 32 1 (.pointer none) Tryz.underlying63 infoDp rfl (pB g4 (dp2 N) 32 :: pB g3 (tp2 N) 30 :: sB g2 dd id fi nw :: lB g1 rc ct rk lf zz :: zO z gs gr tv2 xv :: ((G ++ Tn) ++ ((H ++ Dn) ++ Tt2))) Tx [] (by simp only [List.append_assoc, List.cons_append, List.nil_append, List.append_nil]) xv N (vT dp N) hxv (by omega) 0 g4 32 (ls [.pointer (some ⟨(dp2 N), 0, none⟩)]) rfl (one_ls _ rfl) (fun _ => by kernel_rfl) ?_
       intro xv2 Tx2 u15 hx2 M
       replace M : Mem (zX w z gs gr tv xv (G ++ (H ++ (Tt ++ Tx)))) (pB g4 (dp2 N) 32 :: pB g3 (tp2 N) 30 :: sB g2 dd id fi nw :: lB g1 rc ct rk lf zz :: zO z gs gr tv2 xv :: ((G ++ Tn) ++ ((H ++ Dn) ++ (Tt2 ++ Tx2)))) u15 := by simpa only [List.append_assoc, List.cons_append, List.nil_append, List.append_nil] using M
       have hx3 := vT_make hdp2 hx2
       refine rV 2 ?_
       refine (pl_put1 M (want_no rfl) rfl 63 _ _ rfl 4 z 3 (by kernel_rfl) 4 65 (ls [.pointer (some ⟨gs, 0, none⟩), .pointer (some ⟨gr, 0, none⟩), tv2, xv]) rfl (xv2) (ls [.pointer (some ⟨gs, 0, none⟩), .pointer (some ⟨gr, 0, none⟩), tv2, xv2]) (by kernel_rfl) inz63 (by decide) (slw_one hx2) (slw_cells hx2) (put_ls _ 3 _ _ rfl) ?_)
       intro u16 M
       replace M : Mem (zX w z gs gr tv xv (G ++ (H ++ (Tt ++ Tx)))) (pB g4 (dp2 N) 32 :: pB g3 (tp2 N) 30 :: sB g2 dd id fi nw :: lB g1 rc ct rk lf zz :: zO z gs gr tv2 xv2 :: ((G ++ Tn) ++ ((H ++ Dn) ++ (Tt2 ++ Tx2)))) u16 := M
       refine nT <| wp_seq ?_
       refine rg_held M [pB g4 (dp2 N) 32, pB g3 (tp2 N) 30, sB g2 dd id fi nw, lB g1 rc ct rk lf zz, zO z gs gr tv2 xv2] 17 rfl (by kernel_rfl) (by kernel_rfl) (fun _ _ d _ _ h => by cases d <;> exact h) fun u17 M => ?_
       replace M : Mem (zX w z gs gr tv xv (G ++ (H ++ (Tt ++ Tx)))) (pB g4 (dp2 N) 32 :: pB g3 (tp2 N) 30 :: sB g2 dd id fi nw :: lB g1 rc ct rk lf zz :: zO z gs gr tv2 xv2 :: ((G ++ Tn) ++ ((H ++ Dn) ++ (Tt2 ++ Tx2)))) u17 := M
       refine qV (M.drop (.cons_cons _ (.cons_cons _ (.cons_cons _ (.cons_cons _ (.cons_cons _ (List.nil_sublist _))))))) 0 364 (.pointer (some ⟨z, 0, none⟩)) ?_
       refine qV (M.drop (.cons_cons _ (.cons_cons _ (.cons_cons _ (.cons_cons _ (.cons_cons _ (List.nil_sublist _))))))) 1 365 (.pointer (some ⟨z, 0, none⟩)) ?_
       refine qV (M.drop (.cons_cons _ (.cons_cons _ (.cons_cons _ (.cons_cons _ (.cons_cons _ (List.nil_sublist _))))))) 2 366 (.pointer (some ⟨z, 0, none⟩)) ?_
       refine hl_cell (M.drop (.cons_cons _ (.cons_cons _ (.cons_cons _ (.cons_cons _ (.cons_cons _ (List.nil_sublist _))))))) 3 rfl (by decide) (by kernel_rfl) (by kernel_rfl) (want_no rfl) (some 367) rfl 56 _ rfl z 0 (by kernel_rfl) (.pointer (some ⟨gs, 0, none⟩)) (fun _ => by kernel_rfl) (fun w M => M.cell 4 rfl (by decide) rfl) ?_
       refine qV (M.drop (.cons_cons _ (.cons_cons _ (.cons_cons _ (.cons_cons _ (.cons_cons _ (List.nil_sublist _))))))) 4 368 (.pointer (some ⟨g2, 1, none⟩)) ?_
       refine hl_cell (M.drop (.cons_cons _ (.cons_cons _ (.cons_cons _ (.cons_cons _ (.cons_cons _ (List.nil_sublist _))))))) 5 rfl (by decide) (by kernel_rfl) (by kernel_rfl) (want_no rfl) (some 369) rfl 67 _ rfl g2 1 (by kernel_rfl) (.int .u32 (id : Int)) (fun _ => by kernel_rfl) (fun w M => M.cell 2 rfl (by decide) rfl) ?_
       refine qV (M.drop (.cons_cons _ (.cons_cons _ (.cons_cons _ (.cons_cons _ (.cons_cons _ (List.nil_sublist _))))))) 6 370 (.pointer (some ⟨(tp2 N), 0, none⟩)) ?_
       refine qV (M.drop (.cons_cons _ (.cons_cons _ (.cons_cons _ (.cons_cons _ (.cons_cons _ (List.nil_sublist _))))))) 8 372 (.pointer (some ⟨z, 0, none⟩)) ?_
       refine qV (M.drop (.cons_cons _ (.cons_cons _ (.cons_cons _ (.cons_cons _ (.cons_cons _ (List.nil_sublist _))))))) 9 373 (.pointer (some ⟨z, 0, none⟩)) ?_
       refine qV (M.drop (.cons_cons _ (.cons_cons _ (.cons_cons _ (.cons_cons _ (.cons_cons _ (List.nil_sublist _))))))) 10 374 (.pointer (some ⟨z, 1, none⟩)) ?_
       refine hl_cell (M.drop (.cons_cons _ (.cons_cons _ (.cons_cons _ (.cons_cons _ (.cons_cons _ (List.nil_sublist _))))))) 11 rfl (by decide) (by kernel_rfl) (by kernel_rfl) (want_no rfl) (some 375) rfl 58 _ rfl z 1 (by kernel_rfl) (.pointer (some ⟨gr, 0, none⟩)) (fun _ => by kernel_rfl) (fun w M => M.cell 4 rfl (by decide) rfl) ?_
       refine qV (M.drop (.cons_cons _ (.cons_cons _ (.cons_cons _ (.cons_cons _ (.cons_cons _ (List.nil_sublist _))))))) 12 376 (.pointer (some ⟨g2, 1, none⟩)) ?_
       refine hl_cell (M.drop (.cons_cons _ (.cons_cons _ (.cons_cons _ (.cons_cons _ (.cons_cons _ (List.nil_sublist _))))))) 13 rfl (by decide) (by kernel_rfl) (by kernel_rfl) (want_no rfl) (some 377) rfl 67 _ rfl g2 1 (by kernel_rfl) (.int .u32 (id : Int)) (fun _ => by kernel_rfl) (fun w M => M.cell 2 rfl (by decide) rfl) ?_
       refine qV (M.drop (.cons_cons _ (.cons_cons _ (.cons_cons _ (.cons_cons _ (.cons_cons _ (List.nil_sublist _))))))) 14 378 (.pointer (some ⟨(dp2 N), 0, none⟩)) ?_
       refine hl_one 7 (by decide) (by kernel_rfl) rfl ?_
       refine pl_callM M (want_no rfl) (some 371) rfl 41 #[.pointer (some ⟨gs, 0, none⟩), .int .u32 (id : Int), .pointer (some ⟨(tp2 N), 0, none⟩)] [pB g4 (dp2 N) 32, pB g3 (tp2 N) 30, sB g2 dd id fi nw, lB g1 rc ct rk lf zz, zO z gs gr tv2 xv2] ((G ++ Tn)) (((H ++ Dn) ++ (Tt2 ++ Tx2))) (by simp only [List.append_assoc, List.cons_append, List.nil_append, List.append_nil]) (fun G0 => .int .i64 0) (fun G0 => G0) (fun G0 => IsPS gs (SP ++ [⟨id, tp2 N⟩]) (N + 1) tp2 (fun k => pX (Y2 k) (gn2 k)) G0) (fun _ => by kernel_rfl) (fun w hL hT => g_PutB hG1 (Nat.lt_succ_self N) hno h3 w hL hT) ?_
       rintro G2 u18 hG2 M
       replace M : Mem (zX w z gs gr tv xv (G ++ (H ++ (Tt ++ Tx)))) (pB g4 (dp2 N) 32 :: pB g3 (tp2 N) 30 :: sB g2 dd id fi nw :: lB g1 rc ct rk lf zz :: zO z gs gr tv2 xv2 :: (G2 ++ ((H ++ Dn) ++ (Tt2 ++ Tx2)))) u18 := by simpa only [List.append_assoc, List.cons_append, List.nil_append, List.append_nil] using M
       refine nT ?_
       refine ⟨(M.drop (.cons_cons _ (.cons_cons _ (.cons_cons _ (.cons_cons _ (.cons_cons _ (List.nil_sublist _))))))), ?_⟩
       refine hl_one 15 (by decide) (by kernel_rfl) rfl ?_
       refine pl_callM M (want_no rfl) (some 379) rfl 42 #[.pointer (some ⟨gr, 0, none⟩), .int .u32 (id : Int), .pointer (some ⟨(dp2 N), 0, none⟩)] (pB g4 (dp2 N) 32 :: pB g3 (tp2 N) 30 :: sB g2 dd id fi nw :: lB g1 rc ct rk lf zz :: zO z gs gr tv2 xv2 :: G2) ((H ++ Dn)) ((Tt2 ++ Tx2)) (by simp only [List.append_assoc, List.cons_append, List.nil_append, List.append_nil]) (fun H0 => .int .i64 0) (fun H0 => H0) (fun H0 => IsQS gr (SQ ++ [⟨id, dp2 N⟩]) (N + 1) dp2 Y2 gn2 H0) (fun _ => by kernel_rfl) (fun w hL hT => h_PutB (m := N) hH1 (fun j hj2 => by rw [hj.ids j (by omega)]; exact hno j (by omega)) (by omega) w hL hT) ?_
       rintro H2 u19 hH2 M
       replace M : Mem (zX w z gs gr tv xv (G ++ (H ++ (Tt ++ Tx)))) (pB g4 (dp2 N) 32 :: pB g3 (tp2 N) 30 :: sB g2 dd id fi nw :: lB g1 rc ct rk lf zz :: zO z gs gr tv2 xv2 :: (G2 ++ (H2 ++ (Tt2 ++ Tx2)))) u19 := by simpa only [List.append_assoc, List.cons_append, List.nil_append, List.append_nil] using M
       refine nT ?_
       refine ⟨(M.drop (.cons_cons _ (.cons_cons _ (.cons_cons _ (.cons_cons _ (.cons_cons _ (List.nil_sublist _))))))), ?_⟩
       refine qV (M.drop (.cons_cons _ (.cons_cons _ (.cons_cons _ (.cons_cons _ (.cons_cons _ (List.nil_sublist _))))))) 16 380 (.bool true) ?_
       refine hl_end (by kernel_rfl) (by kernel_rfl) rfl ?_
       refine rV 1 <| nT <| au_then <| wp_ret ?_
       exact bodyPost_ret (v := .bool true) (results_tmp1 Tryz.results17 _ _ _ (by kernel_rfl)) (by kernel_rfl) ⟨_, rfl, ⟨gs, gr, _, _, N + 1, _, tp2, dp2, Y2, _, G2, H2, tv2, Tt2, xv2, Tx2, rfl, hG2, hH2, ht3, hx3, hj1.put (Nat.lt_succ_self N) hno h3⟩, ((M.drop (.cons _ (.cons _ (.cons _ (.cons _ (.cons_cons _ (List.Sublist.refl _)))))))).okT0⟩
theorem d_0Q {z c gs gr N : Nat} {SP SQ : List Sl} {K tp dp : Nat → Nat} {Y : Nat → TS} {gn : Nat → Bool} {G H Tt Tx : List Blk} {tv xv : Value} (hG : IsPS gs SP N tp (fun k => pX (Y k) (gn k)) G) (hH : IsQS gr SQ N dp Y gn H) (htv : SlW 1 (vT tp N) N tv Tt) (hxv : SlW 1 (vT dp N) N xv Tx) (hj : Jt SP SQ K N tp dp Y c) {rc ct rk lf id nw : Nat} {zz : Int} {fi : Bool} {dd : Int} (hdd : dd < 1 ∨ 6 < dd) {s : Nat} (hzs : (s : Int) = zz) (hmb : mbB rc ct rk lf = true) (hs : 1 ≤ s) (hs4 : s ≤ 4096) (hc : c < 10000) (hno : ∀ j, j < SP.length → ¬ sI SP j = id) (h3 : SP.length = 3) (w : World) (hL : Laid w)  (hT : There w (zO z gs gr tv xv :: (G ++ (H ++ (Tt ++ Tx))))) : Calls Tryz.prog 17 #[.pointer (some ⟨z, 0, none⟩), .agg (av 5 (ls (lR rc ct rk lf zz))), .agg (av 4 (ls (sR_ dd id fi nw)))] w fun r w' => ∃ Z', r = .returned (.bool true) ∧ IsJ z (c + 1) Z' ∧ OkT w w' (zO z gs gr tv xv :: (G ++ (H ++ (Tt ++ Tx)))) Z' := by
 go_enter Tryz.func17, Tryz.ntmps17
 have M : Mem (zX w z gs gr tv xv (G ++ (H ++ (Tt ++ Tx)))) (zO z gs gr tv xv :: (G ++ (H ++ (Tt ++ Tx)))) w := Mem.startT hL hT
 obtain ⟨lQ, bQ, kQ, hlQ, hcQ⟩ := h_look hH
 have hl3 := hj.l3
 have hlen := hj.len
 refine sR ?_
 refine pN M 4 (.cells (av 5 (ls (lR rc ct rk lf zz))) 26) fun g1 u1 M => ?_
 replace M := M.front
 replace M : Mem (zX w z gs gr tv xv (G ++ (H ++ (Tt ++ Tx)))) (lB g1 rc ct rk lf zz :: zO z gs gr tv xv :: (G ++ (H ++ (Tt ++ Tx)))) u1 := M
 refine pN M 5 (.cells (av 4 (ls (sR_ dd id fi nw))) 69) fun g2 u2 M => ?_
 replace M := M.front
 replace M : Mem (zX w z gs gr tv xv (G ++ (H ++ (Tt ++ Tx)))) (sB g2 dd id fi nw :: lB g1 rc ct rk lf zz :: zO z gs gr tv xv :: (G ++ (H ++ (Tt ++ Tx)))) u2 := M
 refine rV 1 <| nT <| wp_seq ?_
 refine rg_held M (sB g2 dd id fi nw :: lB g1 rc ct rk lf zz :: zO z gs gr tv xv :: (G ++ (H ++ (Tt ++ Tx)))) 7 rfl (by kernel_rfl) (by kernel_rfl) (fun _ _ d _ _ h => by cases d <;> exact h) fun u3 M => ?_
 replace M : Mem (zX w z gs gr tv xv (G ++ (H ++ (Tt ++ Tx)))) (sB g2 dd id fi nw :: lB g1 rc ct rk lf zz :: zO z gs gr tv xv :: (G ++ (H ++ (Tt ++ Tx)))) u3 := M
 refine qV M 0 36 (.pointer (some ⟨z, 0, none⟩)) ?_
 refine qV M 1 37 (.pointer (some ⟨z, 0, none⟩)) ?_
 refine qV M 2 38 (.pointer (some ⟨z, 1, none⟩)) ?_
 refine hl_cell M 3 rfl (by decide) (by kernel_rfl) (by kernel_rfl) (want_no rfl) (some 39) rfl 58 _ rfl z 1 (by kernel_rfl) (.pointer (some ⟨gr, 0, none⟩)) (fun _ => by kernel_rfl) (fun w M => M.cell 2 rfl (by decide) rfl) ?_
 refine qV M 4 40 (.pointer (some ⟨g2, 1, none⟩)) ?_
 refine hl_cell M 5 rfl (by decide) (by kernel_rfl) (by kernel_rfl) (want_no rfl) (some 41) rfl 67 _ rfl g2 1 (by kernel_rfl) (.int .u32 (id : Int)) (fun _ => by kernel_rfl) (fun w M => M.cell 0 rfl (by decide) rfl) ?_
 refine hl_one 6 (by decide) (by kernel_rfl) rfl ?_
 refine pC M 42 34 #[.pointer (some ⟨gr, 0, none⟩), .int .u32 (id : Int)] (.int .i64 (ix (fun j => decide (sI SQ j = id)) SQ.length)) (fun w M => h_Find hH (by omega) w M.laid (M.thereM (pre := (sB g2 dd id fi nw :: lB g1 rc ct rk lf zz :: zO z gs gr tv xv :: G)) (T := H) (suf := (Tt ++ Tx)) (by simp only [List.append_assoc, List.cons_append, List.nil_append, List.append_nil]))) fun u4 M => ?_
 refine nT ?_
 refine ⟨M, ?_⟩
 refine hl_end (by kernel_rfl) (by kernel_rfl) rfl ?_
 refine rV 1 <| nT <| au_then <| wp_seq <| sR ?_
 refine rV 1 <| ZE M 44 0 0 <| nT ?_
 refine wp_block ?_
 refine sR ?_
 by_cases c0 : dd = 1
 ·exfalso; omega
 ·refine pH 46 (.bool false) (jF (dd = 1) (c0)) ?_
  refine rV 1 <| nT <| cF <| sR ?_
  by_cases c1 : dd = 2
  ·exfalso; omega
  ·refine pH 84 (.bool false) (jF (dd = 2) (c1)) ?_
   refine rV 1 <| nT <| cF <| sR ?_
   by_cases c2 : dd = 3
   ·exfalso; omega
   ·refine pH 149 (.bool false) (jF (dd = 3) (c2)) ?_
    refine rV 1 <| nT <| cF <| sR ?_
    by_cases c3 : dd = 4
    ·exfalso; omega
    ·refine pH 166 (.bool false) (jF (dd = 4) (c3)) ?_
     refine rV 1 <| nT <| cF <| sR ?_
     by_cases c4 : dd = 6
     ·exfalso; omega
     ·refine pH 176 (.bool false) (jF (dd = 6) (c4)) ?_
      refine rV 1 <| nT <| cF <| sR ?_
      by_cases c5 : dd = 5
      ·exfalso; omega
      ·refine pH 231 (.bool false) (jF (dd = 5) (c5)) ?_
       refine rV 1 <| nT <| cF <| wp_skip ?_
       refine au_block ?_
       refine au_then <| wp_seq ?_
       refine rg_held M [sB g2 dd id fi nw, lB g1 rc ct rk lf zz, zO z gs gr tv xv] 13 rfl (by kernel_rfl) (by kernel_rfl) (fun _ _ d _ _ h => by cases d <;> exact h) fun u5 M => ?_
       replace M : Mem (zX w z gs gr tv xv (G ++ (H ++ (Tt ++ Tx)))) (sB g2 dd id fi nw :: lB g1 rc ct rk lf zz :: zO z gs gr tv xv :: (G ++ (H ++ (Tt ++ Tx)))) u5 := M
       refine qV (M.drop (.cons_cons _ (.cons_cons _ (.cons_cons _ (List.nil_sublist _))))) 0 316 (.pointer (some ⟨g2, 2, none⟩)) ?_
       refine hl_cell (M.drop (.cons_cons _ (.cons_cons _ (.cons_cons _ (List.nil_sublist _))))) 1 rfl (by decide) (by kernel_rfl) (by kernel_rfl) (want_no rfl) (some 317) rfl 4 _ rfl g2 2 (by kernel_rfl) (.bool (fi)) (fun _ => by kernel_rfl) (fun w M => M.cell 0 rfl (by decide) rfl) ?_
       refine qV (M.drop (.cons_cons _ (.cons_cons _ (.cons_cons _ (List.nil_sublist _))))) 3 319 (.pointer (some ⟨g2, 2, none⟩)) ?_
       refine hl_cell (M.drop (.cons_cons _ (.cons_cons _ (.cons_cons _ (List.nil_sublist _))))) 4 rfl (by decide) (by kernel_rfl) (by kernel_rfl) (want_no rfl) (some 320) rfl 4 _ rfl g2 2 (by kernel_rfl) (.bool (fi)) (fun _ => by kernel_rfl) (fun w M => M.cell 0 rfl (by decide) rfl) ?_
       refine qV (M.drop (.cons_cons _ (.cons_cons _ (.cons_cons _ (List.nil_sublist _))))) 5 321 (.pointer (some ⟨g2, 3, none⟩)) ?_
       refine hl_cell (M.drop (.cons_cons _ (.cons_cons _ (.cons_cons _ (List.nil_sublist _))))) 6 rfl (by decide) (by kernel_rfl) (by kernel_rfl) (want_no rfl) (some 322) rfl 24 _ rfl g2 3 (by kernel_rfl) (.int .u64 (nw : Int)) (fun _ => by kernel_rfl) (fun w M => M.cell 0 rfl (by decide) rfl) ?_
       refine hl_load (M.drop (.cons_cons _ (.cons_cons _ (.cons_cons _ (List.nil_sublist _))))) 7 rfl (by decide) (by kernel_rfl) (by kernel_rfl) (want_no rfl) (some 323) rfl 26 _ rfl 1 g1 0 (by kernel_rfl) 5 26 (ls (lR rc ct rk lf zz)) rfl 5 (ls (lR rc ct rk lf zz)) (fun j _ => by rw [Nat.zero_add]) (by decide) _ Tryz.underlying26 rfl inz26 ?_
       refine hl_one 2 (by decide) (by kernel_rfl) rfl ?_
       refine ZC M 318 (fun w M => c_gotF fi w M.laid) fun u6 M => ?_
       refine nT ?_
       refine ⟨(M.drop (.cons_cons _ (.cons_cons _ (.cons_cons _ (List.nil_sublist _))))), ?_⟩
       refine hl_one 8 (by decide) (by kernel_rfl) rfl ?_
       refine pl_callM M (want_no rfl) (some 324) rfl 7 #[.agg (av 5 (ls [.string ⟨#[]⟩, .string ⟨#[]⟩, .string (keyS fi), .string (keyS (!fi)), .string ⟨#[]⟩])), .bool (fi), .int .u64 (nw : Int), .agg (av 5 (ls (lR rc ct rk lf zz)))] (sB g2 dd id fi nw :: lB g1 rc ct rk lf zz :: zO z gs gr tv xv :: G) [] ((H ++ (Tt ++ Tx))) (by simp only [List.append_assoc, List.cons_append, List.nil_append, List.append_nil]) (fun x : Nat × List Blk => .tuple #[.pointer (some ⟨x.1, 0, none⟩), .int .i64 0]) (fun x : Nat × List Blk => x.2) (fun x : Nat × List Blk => IsT x.1 ⟨rc, ct, rk, lf, s, 0, nw, keyS fi, keyS (!fi), fi, fi, []⟩ x.2) (fun _ => by kernel_rfl) (fun w hL hT => by rw [← hzs]; exact a_New (keyS_size _) (keyS_size _) hmb hs hs4 w hL) ?_
       rintro ⟨t, Tn⟩ u7 hIT M
       replace M : Mem (zX w z gs gr tv xv (G ++ (H ++ (Tt ++ Tx)))) (sB g2 dd id fi nw :: lB g1 rc ct rk lf zz :: zO z gs gr tv xv :: (G ++ (Tn ++ (H ++ (Tt ++ Tx))))) u7 := by simpa only [List.append_assoc, List.cons_append, List.nil_append, List.append_nil] using M
       refine nT ?_
       refine ⟨(M.drop (.cons_cons _ (.cons_cons _ (.cons_cons _ (List.nil_sublist _))))), ?_⟩
       refine qV (M.drop (.cons_cons _ (.cons_cons _ (.cons_cons _ (List.nil_sublist _))))) 9 315 (.tuple #[.pointer (some ⟨t, 0, none⟩), .int .i64 0]) ?_
       refine qV (M.drop (.cons_cons _ (.cons_cons _ (.cons_cons _ (List.nil_sublist _))))) 10 325 (.pointer (some ⟨t, 0, none⟩)) ?_
       refine qV (M.drop (.cons_cons _ (.cons_cons _ (.cons_cons _ (List.nil_sublist _))))) 11 326 (.int .i64 0) ?_
       refine qV (M.drop (.cons_cons _ (.cons_cons _ (.cons_cons _ (List.nil_sublist _))))) 12 32 (.pointer (some ⟨t, 0, none⟩)) ?_
       refine hl_end (by kernel_rfl) (by kernel_rfl) rfl ?_
       refine rV 1 <| nT <| au_then <| wp_seq ?_
       refine rg_held M [sB g2 dd id fi nw, lB g1 rc ct rk lf zz, zO z gs gr tv xv] 13 rfl (by kernel_rfl) (by kernel_rfl) (fun _ _ d _ _ h => by cases d <;> exact h) fun u8 M => ?_
       replace M : Mem (zX w z gs gr tv xv (G ++ (H ++ (Tt ++ Tx)))) (sB g2 dd id fi nw :: lB g1 rc ct rk lf zz :: zO z gs gr tv xv :: (G ++ (Tn ++ (H ++ (Tt ++ Tx))))) u8 := M
       refine qV (M.drop (.cons_cons _ (.cons_cons _ (.cons_cons _ (List.nil_sublist _))))) 0 328 (.pointer (some ⟨g2, 2, none⟩)) ?_
       refine hl_cell (M.drop (.cons_cons _ (.cons_cons _ (.cons_cons _ (List.nil_sublist _))))) 1 rfl (by decide) (by kernel_rfl) (by kernel_rfl) (want_no rfl) (some 329) rfl 4 _ rfl g2 2 (by kernel_rfl) (.bool (fi)) (fun _ => by kernel_rfl) (fun w M => M.cell 0 rfl (by decide) rfl) ?_
       refine qV (M.drop (.cons_cons _ (.cons_cons _ (.cons_cons _ (List.nil_sublist _))))) 3 331 (.pointer (some ⟨g2, 2, none⟩)) ?_
       refine hl_cell (M.drop (.cons_cons _ (.cons_cons _ (.cons_cons _ (List.nil_sublist _))))) 4 rfl (by decide) (by kernel_rfl) (by kernel_rfl) (want_no rfl) (some 332) rfl 4 _ rfl g2 2 (by kernel_rfl) (.bool (fi)) (fun _ => by kernel_rfl) (fun w M => M.cell 0 rfl (by decide) rfl) ?_
       refine qV (M.drop (.cons_cons _ (.cons_cons _ (.cons_cons _ (List.nil_sublist _))))) 5 333 (.pointer (some ⟨g2, 3, none⟩)) ?_
       refine hl_cell (M.drop (.cons_cons _ (.cons_cons _ (.cons_cons _ (List.nil_sublist _))))) 6 rfl (by decide) (by kernel_rfl) (by kernel_rfl) (want_no rfl) (some 334) rfl 24 _ rfl g2 3 (by kernel_rfl) (.int .u64 (nw : Int)) (fun _ => by kernel_rfl) (fun w M => M.cell 0 rfl (by decide) rfl) ?_
       refine hl_load (M.drop (.cons_cons _ (.cons_cons _ (.cons_cons _ (List.nil_sublist _))))) 7 rfl (by decide) (by kernel_rfl) (by kernel_rfl) (want_no rfl) (some 335) rfl 26 _ rfl 1 g1 0 (by kernel_rfl) 5 26 (ls (lR rc ct rk lf zz)) rfl 5 (ls (lR rc ct rk lf zz)) (fun j _ => by rw [Nat.zero_add]) (by decide) _ Tryz.underlying26 rfl inz26 ?_
       refine hl_one 2 (by decide) (by kernel_rfl) rfl ?_
       refine ZC M 330 (fun w M => c_gotF fi w M.laid) fun u9 M => ?_
       refine nT ?_
       refine ⟨(M.drop (.cons_cons _ (.cons_cons _ (.cons_cons _ (List.nil_sublist _))))), ?_⟩
       refine hl_one 8 (by decide) (by kernel_rfl) rfl ?_
       refine pl_callM M (want_no rfl) (some 336) rfl 8 #[.agg (av 5 (ls [.string ⟨#[]⟩, .string ⟨#[]⟩, .string (keyS fi), .string (keyS (!fi)), .string ⟨#[]⟩])), .bool (fi), .int .u64 (nw : Int), .agg (av 5 (ls (lR rc ct rk lf zz)))] (sB g2 dd id fi nw :: lB g1 rc ct rk lf zz :: zO z gs gr tv xv :: (G ++ (Tn ++ H))) [] ((Tt ++ Tx)) (by simp only [List.append_assoc, List.cons_append, List.nil_append, List.append_nil]) (fun x : Nat × List Blk => .tuple #[.pointer (some ⟨x.1, 0, none⟩), .int .i64 0]) (fun x : Nat × List Blk => x.2) (fun x : Nat × List Blk => IsD x.1 ⟨rc, ct, rk, lf, s, 0, nw, keyS fi, keyS (!fi), fi, fi, []⟩ false x.2) (fun _ => by kernel_rfl) (fun w hL hT => by rw [← hzs]; exact d_New (keyS_size _) (keyS_size _) (md_of hmb hs hs4) w hL) ?_
       rintro ⟨d, Dn⟩ u10 hID M
       replace M : Mem (zX w z gs gr tv xv (G ++ (H ++ (Tt ++ Tx)))) (sB g2 dd id fi nw :: lB g1 rc ct rk lf zz :: zO z gs gr tv xv :: (G ++ (Tn ++ (H ++ (Dn ++ (Tt ++ Tx)))))) u10 := by simpa only [List.append_assoc, List.cons_append, List.nil_append, List.append_nil] using M
       refine nT ?_
       refine ⟨(M.drop (.cons_cons _ (.cons_cons _ (.cons_cons _ (List.nil_sublist _))))), ?_⟩
       refine qV (M.drop (.cons_cons _ (.cons_cons _ (.cons_cons _ (List.nil_sublist _))))) 9 327 (.tuple #[.pointer (some ⟨d, 0, none⟩), .int .i64 0]) ?_
       refine qV (M.drop (.cons_cons _ (.cons_cons _ (.cons_cons _ (List.nil_sublist _))))) 10 337 (.pointer (some ⟨d, 0, none⟩)) ?_
       refine qV (M.drop (.cons_cons _ (.cons_cons _ (.cons_cons _ (List.nil_sublist _))))) 11 338 (.int .i64 0) ?_
       refine qV (M.drop (.cons_cons _ (.cons_cons _ (.cons_cons _ (List.nil_sublist _))))) 12 34 (.pointer (some ⟨d, 0, none⟩)) ?_
       refine hl_end (by kernel_rfl) (by kernel_rfl) rfl ?_
       refine rV 1 <| nT ?_
       obtain ⟨tp2, htp2⟩ : ∃ f, f = upd tp N t := ⟨_, rfl⟩
       have etp2 : t = tp2 N := by rw [htp2, upd_self]
       subst etp2
       obtain ⟨dp2, hdp2⟩ : ∃ f, f = upd dp N d := ⟨_, rfl⟩
       have edp2 : d = dp2 N := by rw [hdp2, upd_self]
       subst edp2
       obtain ⟨Y2, hY2⟩ : ∃ f, f = upd Y N ⟨rc, ct, rk, lf, s, 0, nw, keyS fi, keyS (!fi), fi, fi, []⟩ := ⟨_, rfl⟩
       obtain ⟨gn2, hgn2⟩ : ∃ f, f = upd gn N false := ⟨_, rfl⟩
       have hG1 := g_make hG hIT htp2 hY2 hgn2
       have hH1 := h_make hH hID hdp2 hY2 hgn2
       have hj1 : Jt SP SQ K (N + 1) tp2 dp2 Y2 (c + 1) := by have h := hj.make (t := tp2 N) (d := dp2 N) (y := ⟨rc, ct, rk, lf, s, 0, nw, keyS fi, keyS (!fi), fi, fi, []⟩) ⟨⟨hs, hs4, (ct_of hmb).1, Nat.zero_le _⟩, keyS_size fi, keyS_size (!fi), Nat.zero_lt_succ _, fun _ h => by cases h⟩ (Nat.zero_le _); rw [← htp2, ← hdp2, ← hY2] at h; exact h
       replace M : Mem (zX w z gs gr tv xv (G ++ (H ++ (Tt ++ Tx)))) (sB g2 dd id fi nw :: lB g1 rc ct rk lf zz :: zO z gs gr tv xv :: ((G ++ Tn) ++ ((H ++ Dn) ++ (Tt ++ Tx)))) u10 := by simpa only [List.append_assoc, List.cons_append, List.nil_append, List.append_nil] using M
       have hnN := hj.nN
       refine au_then <| wp_seq <| sq <| cF <| wp_skip ?_
       refine au_then <| wp_seq <| sq <| cF <| wp_skip ?_
       refine au_then <| sR <| rV 4 <| ZE M 348 2 2 <| rV 1 ?_
       refine ZM M 350 (fun g3 => .slice (some ⟨g3, 0, none⟩) 1 1) (.cells (av 1 (ls [.pointer (some ⟨(tp2 N), 0, none⟩)])) 30) fun g3 u11 M => ?_
       replace M := M.front
       replace M : Mem (zX w z gs gr tv xv (G ++ (H ++ (Tt ++ Tx)))) (pB g3 (tp2 N) 30 :: sB g2 dd id fi nw :: lB g1 rc ct rk lf zz :: zO z gs gr tv xv :: ((G ++ Tn) ++ ((H ++ Dn) ++ (Tt ++ Tx)))) u11 := M
       refine pl_appW M (want_no rfl) (some 351) rfl 62 62 30 1 (.pointer none) Tryz.underlying62 infoTp rfl (pB g3 (tp2 N) 30 :: sB g2 dd id fi nw :: lB g1 rc ct rk lf zz :: zO z gs gr tv xv :: ((G ++ Tn) ++ (H ++ Dn))) Tt Tx (by simp only [List.append_assoc, List.cons_append, List.nil_append, List.append_nil]) tv N (vT tp N) htv (by omega) 0 g3 30 (ls [.pointer (some ⟨(tp2 N), 0, none⟩)]) rfl (one_ls _ rfl) (fun _ => by kernel_rfl) ?_
       intro tv2 Tt2 u12 ht2 M
       replace M : Mem (zX w z gs gr tv xv (G ++ (H ++ (Tt ++ Tx)))) (pB g3 (tp2 N) 30 :: sB g2 dd id fi nw :: lB g1 rc ct rk lf zz :: zO z gs gr tv xv :: ((G ++ Tn) ++ ((H ++ Dn) ++ (Tt2 ++ Tx)))) u12 := by simpa only [List.append_assoc, List.cons_append, List.nil_append, List.append_nil] using M
       have ht3 := vT_make htp2 ht2
       refine rV 2 ?_
       refine (pl_put1 M (want_no rfl) rfl 62 _ _ rfl 3 z 2 (by kernel_rfl) 4 65 (ls [.pointer (some ⟨gs, 0, none⟩), .pointer (some ⟨gr, 0, none⟩), tv, xv]) rfl (tv2) (ls [.pointer (some ⟨gs, 0, none⟩), .pointer (some ⟨gr, 0, none⟩), tv2, xv]) (by kernel_rfl) inz62 (by decide) (slw_one ht2) (slw_cells ht2) (put_ls _ 2 _ _ rfl) ?_)
       intro u13 M
       replace M : Mem (zX w z gs gr tv xv (G ++ (H ++ (Tt ++ Tx)))) (pB g3 (tp2 N) 30 :: sB g2 dd id fi nw :: lB g1 rc ct rk lf zz :: zO z gs gr tv2 xv :: ((G ++ Tn) ++ ((H ++ Dn) ++ (Tt2 ++ Tx)))) u13 := M
       refine nT <| sR <| rV 4 <| ZE M 358 3 3 <| rV 1 ?_
       refine ZM M 360 (fun g4 => .slice (some ⟨g4, 0, none⟩) 1 1) (.cells (av 1 (ls [.pointer (some ⟨(dp2 N), 0, none⟩)])) 32) fun g4 u14 M => ?_
       replace M := M.front
       replace M : Mem (zX w z gs gr tv xv (G ++ (H ++ (Tt ++ Tx)))) (pB g4 (dp2 N) 32 :: pB g3 (tp2 N) 30 :: sB g2 dd id fi nw :: lB g1 rc ct rk lf zz :: zO z gs gr tv2 xv :: ((G ++ Tn) ++ ((H ++ Dn) ++ (Tt2 ++ Tx)))) u14 := M
       refine pl_appW M (want_no rfl) (some 361) rfl 63 63 32 1 (.pointer none) Tryz.underlying63 infoDp rfl (pB g4 (dp2 N) 32 :: pB g3 (tp2 N) 30 :: sB g2 dd id fi nw :: lB g1 rc ct rk lf zz :: zO z gs gr tv2 xv :: ((G ++ Tn) ++ ((H ++ Dn) ++ Tt2))) Tx [] (by simp only [List.append_assoc, List.cons_append, List.nil_append, List.append_nil]) xv N (vT dp N) hxv (by omega) 0 g4 32 (ls [.pointer (some ⟨(dp2 N), 0, none⟩)]) rfl (one_ls _ rfl) (fun _ => by kernel_rfl) ?_
       intro xv2 Tx2 u15 hx2 M
       replace M : Mem (zX w z gs gr tv xv (G ++ (H ++ (Tt ++ Tx)))) (pB g4 (dp2 N) 32 :: pB g3 (tp2 N) 30 :: sB g2 dd id fi nw :: lB g1 rc ct rk lf zz :: zO z gs gr tv2 xv :: ((G ++ Tn) ++ ((H ++ Dn) ++ (Tt2 ++ Tx2)))) u15 := by simpa only [List.append_assoc, List.cons_append, List.nil_append, List.append_nil] using M
       have hx3 := vT_make hdp2 hx2
       refine rV 2 ?_
       refine (pl_put1 M (want_no rfl) rfl 63 _ _ rfl 4 z 3 (by kernel_rfl) 4 65 (ls [.pointer (some ⟨gs, 0, none⟩), .pointer (some ⟨gr, 0, none⟩), tv2, xv]) rfl (xv2) (ls [.pointer (some ⟨gs, 0, none⟩), .pointer (some ⟨gr, 0, none⟩), tv2, xv2]) (by kernel_rfl) inz63 (by decide) (slw_one hx2) (slw_cells hx2) (put_ls _ 3 _ _ rfl) ?_)
       intro u16 M
       replace M : Mem (zX w z gs gr tv xv (G ++ (H ++ (Tt ++ Tx)))) (pB g4 (dp2 N) 32 :: pB g3 (tp2 N) 30 :: sB g2 dd id fi nw :: lB g1 rc ct rk lf zz :: zO z gs gr tv2 xv2 :: ((G ++ Tn) ++ ((H ++ Dn) ++ (Tt2 ++ Tx2)))) u16 := M
       refine nT <| wp_seq ?_
       refine rg_held M [pB g4 (dp2 N) 32, pB g3 (tp2 N) 30, sB g2 dd id fi nw, lB g1 rc ct rk lf zz, zO z gs gr tv2 xv2] 17 rfl (by kernel_rfl) (by kernel_rfl) (fun _ _ d _ _ h => by cases d <;> exact h) fun u17 M => ?_
       replace M : Mem (zX w z gs gr tv xv (G ++ (H ++ (Tt ++ Tx)))) (pB g4 (dp2 N) 32 :: pB g3 (tp2 N) 30 :: sB g2 dd id fi nw :: lB g1 rc ct rk lf zz :: zO z gs gr tv2 xv2 :: ((G ++ Tn) ++ ((H ++ Dn) ++ (Tt2 ++ Tx2)))) u17 := M
       refine qV (M.drop (.cons_cons _ (.cons_cons _ (.cons_cons _ (.cons_cons _ (.cons_cons _ (List.nil_sublist _))))))) 0 364 (.pointer (some ⟨z, 0, none⟩)) ?_
       refine qV (M.drop (.cons_cons _ (.cons_cons _ (.cons_cons _ (.cons_cons _ (.cons_cons _ (List.nil_sublist _))))))) 1 365 (.pointer (some ⟨z, 0, none⟩)) ?_
       refine qV (M.drop (.cons_cons _ (.cons_cons _ (.cons_cons _ (.cons_cons _ (.cons_cons _ (List.nil_sublist _))))))) 2 366 (.pointer (some ⟨z, 0, none⟩)) ?_
       refine hl_cell (M.drop (.cons_cons _ (.cons_cons _ (.cons_cons _ (.cons_cons _ (.cons_cons _ (List.nil_sublist _))))))) 3 rfl (by decide) (by kernel_rfl) (by kernel_rfl) (want_no rfl) (some 367) rfl 56 _ rfl z 0 (by kernel_rfl) (.pointer (some ⟨gs, 0, none⟩)) (fun _ => by kernel_rfl) (fun w M => M.cell 4 rfl (by decide) rfl) ?_
       refine qV (M.drop (.cons_cons _ (.cons_cons _ (.cons_cons _ (.cons_cons _ (.cons_cons _ (List.nil_sublist _))))))) 4 368 (.pointer (some ⟨g2, 1, none⟩)) ?_
       refine hl_cell (M.drop (.cons_cons _ (.cons_cons _ (.cons_cons _ (.cons_cons _ (.cons_cons _ (List.nil_sublist _))))))) 5 rfl (by decide) (by kernel_rfl) (by kernel_rfl) (want_no rfl) (some 369) rfl 67 _ rfl g2 1 (by kernel_rfl) (.int .u32 (id : Int)) (fun _ => by kernel_rfl) (fun w M => M.cell 2 rfl (by decide) rfl) ?_
       refine qV (M.drop (.cons_cons _ (.cons_cons _ (.cons_cons _ (.cons_cons _ (.cons_cons _ (List.nil_sublist _))))))) 6 370 (.pointer (some ⟨(tp2 N), 0, none⟩)) ?_
       refine qV (M.drop (.cons_cons _ (.cons_cons _ (.cons_cons _ (.cons_cons _ (.cons_cons _ (List.nil_sublist _))))))) 8 372 (.pointer (some ⟨z, 0, none⟩)) ?_
       refine qV (M.drop (.cons_cons _ (.cons_cons _ (.cons_cons _ (.cons_cons _ (.cons_cons _ (List.nil_sublist _))))))) 9 373 (.pointer (some ⟨z, 0, none⟩)) ?_
       refine qV (M.drop (.cons_cons _ (.cons_cons _ (.cons_cons _ (.cons_cons _ (.cons_cons _ (List.nil_sublist _))))))) 10 374 (.pointer (some ⟨z, 1, none⟩)) ?_
       refine hl_cell (M.drop (.cons_cons _ (.cons_cons _ (.cons_cons _ (.cons_cons _ (.cons_cons _ (List.nil_sublist _))))))) 11 rfl (by decide) (by kernel_rfl) (by kernel_rfl) (want_no rfl) (some 375) rfl 58 _ rfl z 1 (by kernel_rfl) (.pointer (some ⟨gr, 0, none⟩)) (fun _ => by kernel_rfl) (fun w M => M.cell 4 rfl (by decide) rfl) ?_
       refine qV (M.drop (.cons_cons _ (.cons_cons _ (.cons_cons _ (.cons_cons _ (.cons_cons _ (List.nil_sublist _))))))) 12 376 (.pointer (some ⟨g2, 1, none⟩)) ?_
       refine hl_cell (M.drop (.cons_cons _ (.cons_cons _ (.cons_cons _ (.cons_cons _ (.cons_cons _ (List.nil_sublist _))))))) 13 rfl (by decide) (by kernel_rfl) (by kernel_rfl) (want_no rfl) (some 377) rfl 67 _ rfl g2 1 (by kernel_rfl) (.int .u32 (id : Int)) (fun _ => by kernel_rfl) (fun w M => M.cell 2 rfl (by decide) rfl) ?_
       refine qV (M.drop (.cons_cons _ (.cons_cons _ (.cons_cons _ (.cons_cons _ (.cons_cons _ (List.nil_sublist _))))))) 14 378 (.pointer (some ⟨(dp2 N), 0, none⟩)) ?_
       refine hl_one 7 (by decide) (by kernel_rfl) rfl ?_
       refine pl_callM M (want_no rfl) (some 371) rfl 41 #[.pointer (some ⟨gs, 0, none⟩), .int .u32 (id : Int), .pointer (some ⟨(tp2 N), 0, none⟩)] [pB g4 (dp2 N) 32, pB g3 (tp2 N) 30, sB g2 dd id fi nw, lB g1 rc ct rk lf zz, zO z gs gr tv2 xv2] ((G ++ Tn)) (((H ++ Dn) ++ (Tt2 ++ Tx2))) (by simp only [List.append_assoc, List.cons_append, List.nil_append, List.append_nil]) (fun G0 => .int .i64 0) (fun G0 => G0) (fun G0 => IsPS gs ((SP ++ [(⟨id, tp2 N⟩ : Sl)]).drop 1) (N + 1) tp2 (upd (fun k => pX (Y2 k) (gn2 k)) (K 0) (pX (Y2 (K 0)) (gn2 (K 0))).wX) G0) (fun _ => by kernel_rfl) (fun w hL hT => g_PutC hG1 hj1.kP hj1.dist (Nat.lt_succ_self N) hno h3 w hL hT) ?_
       rintro G2 u18 hG2 M
       replace M : Mem (zX w z gs gr tv xv (G ++ (H ++ (Tt ++ Tx)))) (pB g4 (dp2 N) 32 :: pB g3 (tp2 N) 30 :: sB g2 dd id fi nw :: lB g1 rc ct rk lf zz :: zO z gs gr tv2 xv2 :: (G2 ++ ((H ++ Dn) ++ (Tt2 ++ Tx2)))) u18 := by simpa only [List.append_assoc, List.cons_append, List.nil_append, List.append_nil] using M
       refine nT ?_
       refine ⟨(M.drop (.cons_cons _ (.cons_cons _ (.cons_cons _ (.cons_cons _ (.cons_cons _ (List.nil_sublist _))))))), ?_⟩
       refine hl_one 15 (by decide) (by kernel_rfl) rfl ?_
       refine pl_callM M (want_no rfl) (some 379) rfl 42 #[.pointer (some ⟨gr, 0, none⟩), .int .u32 (id : Int), .pointer (some ⟨(dp2 N), 0, none⟩)] (pB g4 (dp2 N) 32 :: pB g3 (tp2 N) 30 :: sB g2 dd id fi nw :: lB g1 rc ct rk lf zz :: zO z gs gr tv2 xv2 :: G2) ((H ++ Dn)) ((Tt2 ++ Tx2)) (by simp only [List.append_assoc, List.cons_append, List.nil_append, List.append_nil]) (fun H0 => .int .i64 0) (fun H0 => H0) (fun H0 => IsQS gr ((SQ ++ [(⟨id, dp2 N⟩ : Sl)]).drop 1) (N + 1) dp2 Y2 (upd gn2 (K 0) true) H0) (fun _ => by kernel_rfl) (fun w hL hT => h_PutC hH1 hj1.kQ (Nat.lt_succ_self N) (fun j hj2 => by rw [hj.ids j (by omega)]; exact hno j (by omega)) (by omega) w hL hT) ?_
       rintro H2 u19 hH2 M
       replace M : Mem (zX w z gs gr tv xv (G ++ (H ++ (Tt ++ Tx)))) (pB g4 (dp2 N) 32 :: pB g3 (tp2 N) 30 :: sB g2 dd id fi nw :: lB g1 rc ct rk lf zz :: zO z gs gr tv2 xv2 :: (G2 ++ (H2 ++ (Tt2 ++ Tx2)))) u19 := by simpa only [List.append_assoc, List.cons_append, List.nil_append, List.append_nil] using M
       refine nT ?_
       refine ⟨(M.drop (.cons_cons _ (.cons_cons _ (.cons_cons _ (.cons_cons _ (.cons_cons _ (List.nil_sublist _))))))), ?_⟩
       refine qV (M.drop (.cons_cons _ (.cons_cons _ (.cons_cons _ (.cons_cons _ (.cons_cons _ (List.nil_sublist _))))))) 16 380 (.bool true) ?_
       refine hl_end (by kernel_rfl) (by kernel_rfl) rfl ?_
       refine rV 1 <| nT <| au_then <| wp_ret ?_
       rw [pX_wX, upd_pX] at hG2
       have hJ := hj1.puts (id := id) (Nat.lt_succ_self N) hno h3
       have eY : (fun i => pX (upd Y2 (K 0) (Y2 (K 0)) i) (upd gn2 (K 0) true i)) = fun i => pX (Y2 i) (upd gn2 (K 0) true i) := by rw [upd_same]
       rw [eY] at hG2
       exact bodyPost_ret (v := .bool true) (results_tmp1 Tryz.results17 _ _ _ (by kernel_rfl)) (by kernel_rfl) ⟨_, rfl, ⟨gs, gr, _, _, N + 1, _, tp2, dp2, Y2, _, G2, H2, tv2, Tt2, xv2, Tx2, rfl, hG2, hH2, ht3, hx3, hJ⟩, ((M.drop (.cons _ (.cons _ (.cons _ (.cons _ (.cons_cons _ (List.Sublist.refl _)))))))).okT0⟩
open Go.RowKit
theorem hs_look {g : Nat} {S : List Sl} {sv : Value} {Ts : List Blk} (hS : SlW 2 (vS S) S.length sv Ts) : ∃ l b k, (0 < S.length → l = some ⟨b, 0, none⟩) ∧ ∀ w, There w (gB g sv :: Ts) → w.cell? ⟨g, 0, none⟩ = some (.slice l S.length k) ∧ (∀ j, j < S.length → w.cell? ⟨b, 0 + j * 2 + 0, none⟩ = some (.int .u32 ((sI S j : Nat) : Int))) ∧ ∀ j, j < S.length → w.cell? ⟨b, 0 + j * 2 + 1, none⟩ = some (.pointer (some ⟨sJ S j, 0, none⟩)) := by
 obtain ⟨l, b, k, rfl, hl, hc⟩ := slw_at hS
 refine ⟨l, b, k, hl, fun w hT => ?_⟩
 have h1 := hT.sub ((List.Sublist.refl Ts).cons _)
 exact ⟨cell_av (hT.at_ _ List.mem_cons_self) (by decide), fun j hj => (hc w h1 j hj).1, fun j hj => (hc w h1 j hj).2⟩
theorem d_6F {z c gs gr N : Nat} {SP SQ : List Sl} {K tp dp : Nat → Nat} {Y : Nat → TS} {gn : Nat → Bool} {G Tsq Bq Tt Tx : List Blk} {tv xv svq : Value} (hG : IsPS gs SP N tp (fun k => pX (Y k) (gn k)) G) (hSq : SlW 2 (vS SQ) SQ.length svq Tsq) (hBq : Row (rD dp Y gn) N Bq) (htv : SlW 1 (vT tp N) N tv Tt) (hxv : SlW 1 (vT dp N) N xv Tx) (hj : Jt SP SQ K N tp dp Y c) {rc ct rk lf id nw : Nat} {zz : Int} {fi : Bool} (hnw : nw < 18446744073709551616) {i : Nat} (hx : (ix (fun j => decide (sI SQ j = id)) SQ.length) = (i : Int)) (hi : i < SP.length) (hid : sI SP i = id) (h0 : ∀ j, j < i → ¬ sI SP j = id) (w : World) (hL : Laid w)  (hT : There w (zO z gs gr tv xv :: (G ++ ((gB gr svq :: Tsq) ++ (Bq ++ (Tt ++ Tx)))))) : Calls Tryz.prog 17 #[.pointer (some ⟨z, 0, none⟩), .agg (av 5 (ls (lR rc ct rk lf zz))), .agg (av 4 (ls (sR_ 6 id fi nw)))] w fun r w' => ∃ Z', r = .returned (.bool true) ∧ IsJ z (c + 1) Z' ∧ OkT w w' (zO z gs gr tv xv :: (G ++ ((gB gr svq :: Tsq) ++ (Bq ++ (Tt ++ Tx))))) Z' := by
 go_enter Tryz.func17, Tryz.ntmps17
 have M : Mem (zX w z gs gr tv xv (G ++ ((gB gr svq :: Tsq) ++ (Bq ++ (Tt ++ Tx))))) (zO z gs gr tv xv :: (G ++ ((gB gr svq :: Tsq) ++ (Bq ++ (Tt ++ Tx))))) w := Mem.startT hL hT
 obtain ⟨lQ, bQ, kQ, hlQ, hcQ⟩ := hs_look hSq
 have hl3 := hj.l3
 have hlen := hj.len
 refine sR ?_
 refine pN M 4 (.cells (av 5 (ls (lR rc ct rk lf zz))) 26) fun g1 u1 M => ?_
 replace M := M.front
 replace M : Mem (zX w z gs gr tv xv (G ++ ((gB gr svq :: Tsq) ++ (Bq ++ (Tt ++ Tx))))) (lB g1 rc ct rk lf zz :: zO z gs gr tv xv :: (G ++ ((gB gr svq :: Tsq) ++ (Bq ++ (Tt ++ Tx))))) u1 := M
 refine pN M 5 (.cells (av 4 (ls (sR_ 6 id fi nw))) 69) fun g2 u2 M => ?_
 replace M := M.front
 replace M : Mem (zX w z gs gr tv xv (G ++ ((gB gr svq :: Tsq) ++ (Bq ++ (Tt ++ Tx))))) (sB g2 6 id fi nw :: lB g1 rc ct rk lf zz :: zO z gs gr tv xv :: (G ++ ((gB gr svq :: Tsq) ++ (Bq ++ (Tt ++ Tx))))) u2 := M
 refine rV 1 <| nT <| wp_seq ?_
 refine rg_held M (sB g2 6 id fi nw :: lB g1 rc ct rk lf zz :: zO z gs gr tv xv :: (G ++ ((gB gr svq :: Tsq) ++ (Bq ++ (Tt ++ Tx))))) 7 rfl (by kernel_rfl) (by kernel_rfl) (fun _ _ d _ _ h => by cases d <;> exact h) fun u3 M => ?_
 replace M : Mem (zX w z gs gr tv xv (G ++ ((gB gr svq :: Tsq) ++ (Bq ++ (Tt ++ Tx))))) (sB g2 6 id fi nw :: lB g1 rc ct rk lf zz :: zO z gs gr tv xv :: (G ++ ((gB gr svq :: Tsq) ++ (Bq ++ (Tt ++ Tx))))) u3 := M
 refine qV M 0 36 (.pointer (some ⟨z, 0, none⟩)) ?_
 refine qV M 1 37 (.pointer (some ⟨z, 0, none⟩)) ?_
 refine qV M 2 38 (.pointer (some ⟨z, 1, none⟩)) ?_
 refine hl_cell M 3 rfl (by decide) (by kernel_rfl) (by kernel_rfl) (want_no rfl) (some 39) rfl 58 _ rfl z 1 (by kernel_rfl) (.pointer (some ⟨gr, 0, none⟩)) (fun _ => by kernel_rfl) (fun w M => M.cell 2 rfl (by decide) rfl) ?_
 refine qV M 4 40 (.pointer (some ⟨g2, 1, none⟩)) ?_
 refine hl_cell M 5 rfl (by decide) (by kernel_rfl) (by kernel_rfl) (want_no rfl) (some 41) rfl 67 _ rfl g2 1 (by kernel_rfl) (.int .u32 (id : Int)) (fun _ => by kernel_rfl) (fun w M => M.cell 0 rfl (by decide) rfl) ?_
 refine hl_one 6 (by decide) (by kernel_rfl) rfl ?_
 refine pC M 42 34 #[.pointer (some ⟨gr, 0, none⟩), .int .u32 (id : Int)] (.int .i64 (i : Int)) (fun w M => call_val (c_find hlQ (by omega) w M.laid (hcQ _ (M.thereM (pre := (sB g2 6 id fi nw :: lB g1 rc ct rk lf zz :: zO z gs gr tv xv :: G)) (T := (gB gr svq :: Tsq)) (suf := (Bq ++ (Tt ++ Tx))) (by simp only [List.append_assoc, List.cons_append, List.nil_append, List.append_nil]))).1 (hcQ _ (M.thereM (pre := (sB g2 6 id fi nw :: lB g1 rc ct rk lf zz :: zO z gs gr tv xv :: G)) (T := (gB gr svq :: Tsq)) (suf := (Bq ++ (Tt ++ Tx))) (by simp only [List.append_assoc, List.cons_append, List.nil_append, List.append_nil]))).2.1) (by rw [hx])) fun u4 M => ?_
 refine nT ?_
 refine ⟨M, ?_⟩
 refine hl_end (by kernel_rfl) (by kernel_rfl) rfl ?_
 refine rV 1 <| nT <| au_then <| wp_seq <| sR ?_
 refine rV 1 <| ZE M 44 0 0 <| nT ?_
 refine wp_block ?_
 refine sq <| cF <| sq <| cF <| sq ?_
 refine cF <| sq <| cF <| sq <| cT ?_
 refine wp_seq <| sR <| rV 1 ?_
 by_cases c0 : (i : Int) < 0
 ·exfalso; omega
 ·refine pH 178 (.bool false) (jF ((i : Int) < 0) (c0)) ?_
  refine nT <| cF <| wp_skip <| au_then <| wp_seq ?_
  refine rg_held M (sB g2 6 id fi nw :: lB g1 rc ct rk lf zz :: zO z gs gr tv xv :: (G ++ ((gB gr svq :: Tsq) ++ (Bq ++ (Tt ++ Tx))))) 11 rfl (by kernel_rfl) (by kernel_rfl) (fun _ _ d _ _ h => by cases d <;> exact h) fun u5 M => ?_
  replace M : Mem (zX w z gs gr tv xv (G ++ ((gB gr svq :: Tsq) ++ (Bq ++ (Tt ++ Tx))))) (sB g2 6 id fi nw :: lB g1 rc ct rk lf zz :: zO z gs gr tv xv :: (G ++ ((gB gr svq :: Tsq) ++ (Bq ++ (Tt ++ Tx))))) u5 := M
  refine qV M 0 180 (.pointer (some ⟨z, 0, none⟩)) ?_
  refine qV M 1 181 (.pointer (some ⟨z, 0, none⟩)) ?_
  refine qV M 2 182 (.pointer (some ⟨z, 0, none⟩)) ?_
  refine hl_cell M 3 rfl (by decide) (by kernel_rfl) (by kernel_rfl) (want_no rfl) (some 183) rfl 56 _ rfl z 0 (by kernel_rfl) (.pointer (some ⟨gs, 0, none⟩)) (fun _ => by kernel_rfl) (fun w M => M.cell 2 rfl (by decide) rfl) ?_
  refine qV M 4 184 (.pointer (some ⟨g2, 1, none⟩)) ?_
  refine hl_cell M 5 rfl (by decide) (by kernel_rfl) (by kernel_rfl) (want_no rfl) (some 185) rfl 67 _ rfl g2 1 (by kernel_rfl) (.int .u32 (id : Int)) (fun _ => by kernel_rfl) (fun w M => M.cell 0 rfl (by decide) rfl) ?_
  refine hl_one 6 (by decide) (by kernel_rfl) rfl ?_
  refine pC M 186 35 #[.pointer (some ⟨gs, 0, none⟩), .int .u32 (id : Int)] (.tuple #[.pointer (some ⟨(sJ SP i), 0, none⟩), .int .i64 0]) (fun w M => g_Get1 hG (by omega) hi hid h0 w M.laid (M.thereM (pre := [sB g2 6 id fi nw, lB g1 rc ct rk lf zz, zO z gs gr tv xv]) (T := G) (suf := ((gB gr svq :: Tsq) ++ (Bq ++ (Tt ++ Tx)))) (by simp only [List.append_assoc, List.cons_append, List.nil_append, List.append_nil]))) fun u6 M => ?_
  refine nT ?_
  refine ⟨M, ?_⟩
  refine qV M 7 179 (.tuple #[.pointer (some ⟨(sJ SP i), 0, none⟩), .int .i64 0]) ?_
  refine qV M 8 187 (.pointer (some ⟨(sJ SP i), 0, none⟩)) ?_
  refine qV M 9 188 (.int .i64 0) ?_
  refine qV M 10 14 (.pointer (some ⟨(sJ SP i), 0, none⟩)) ?_
  refine hl_end (by kernel_rfl) (by kernel_rfl) rfl ?_
  refine rV 1 <| nT <| au_then <| wp_seq <| sq ?_
  refine cF <| wp_skip <| au_then <| sR <| rV 2 ?_
  refine ZE M 194 0 3 ?_
  refine pl_callM M (want_no rfl) (some 195) rfl 21 #[.pointer (some ⟨(sJ SP i), 0, none⟩), .int .u64 (nw : Int), .string ⟨#[120]⟩] [sB g2 6 id fi nw, lB g1 rc ct rk lf zz, zO z gs gr tv xv] (G) (((gB gr svq :: Tsq) ++ (Bq ++ (Tt ++ Tx)))) (by simp only [List.append_assoc, List.cons_append, List.nil_append, List.append_nil]) (fun G0 => .tuple #[.int .u64 (((pX (Y (K i)) (gn (K i))).sN nw ⟨#[120]⟩ : Nat) : Int), .string ((pX (Y (K i)) (gn (K i))).sC nw ⟨#[120]⟩), .int .i64 ((pX (Y (K i)) (gn (K i))).sE nw ⟨#[120]⟩)]) (fun G0 => G0) (fun G0 => IsPS gs SP N tp (upd (fun k => pX (Y k) (gn k)) (K i) ((pX (Y (K i)) (gn (K i))).sX nw ⟨#[120]⟩)) G0) (fun _ => by kernel_rfl) (fun w hL hT => by rw [(hj.kP i hi).2]; exact g_Seal hG (hj.kP i hi).1 (pX_ok (hj.dk _ (hj.kP i hi).1).1.toOk) hnw w hL hT) ?_
  rintro G2 u7 hG2 M
  replace M : Mem (zX w z gs gr tv xv (G ++ ((gB gr svq :: Tsq) ++ (Bq ++ (Tt ++ Tx))))) (sB g2 6 id fi nw :: lB g1 rc ct rk lf zz :: zO z gs gr tv xv :: (G2 ++ ((gB gr svq :: Tsq) ++ (Bq ++ (Tt ++ Tx))))) u7 := by simpa only [List.append_assoc, List.cons_append, List.nil_append, List.append_nil] using M
  refine rV 7 <| nT <| wp_seq ?_
  refine rg_held M (sB g2 6 id fi nw :: lB g1 rc ct rk lf zz :: zO z gs gr tv xv :: (gB gr svq :: Tsq)) 20 rfl (by kernel_rfl) (by kernel_rfl) (fun _ _ d _ _ h => by cases d <;> exact h) fun u8 M => ?_
  replace M : Mem (zX w z gs gr tv xv (G ++ ((gB gr svq :: Tsq) ++ (Bq ++ (Tt ++ Tx))))) (sB g2 6 id fi nw :: lB g1 rc ct rk lf zz :: zO z gs gr tv xv :: (G2 ++ ((gB gr svq :: Tsq) ++ (Bq ++ (Tt ++ Tx))))) u8 := M
  refine qV (M.drop (.cons_cons _ (.cons_cons _ (.cons_cons _ ((List.sublist_append_left _ _).trans (List.sublist_append_right _ _)))))) 0 200 (.pointer (some ⟨z, 0, none⟩)) ?_
  refine qV (M.drop (.cons_cons _ (.cons_cons _ (.cons_cons _ ((List.sublist_append_left _ _).trans (List.sublist_append_right _ _)))))) 1 201 (.pointer (some ⟨z, 0, none⟩)) ?_
  refine qV (M.drop (.cons_cons _ (.cons_cons _ (.cons_cons _ ((List.sublist_append_left _ _).trans (List.sublist_append_right _ _)))))) 2 202 (.pointer (some ⟨z, 1, none⟩)) ?_
  refine hl_cell (M.drop (.cons_cons _ (.cons_cons _ (.cons_cons _ ((List.sublist_append_left _ _).trans (List.sublist_append_right _ _)))))) 3 rfl (by decide) (by kernel_rfl) (by kernel_rfl) (want_no rfl) (some 203) rfl 58 _ rfl z 1 (by kernel_rfl) (.pointer (some ⟨gr, 0, none⟩)) (fun _ => by kernel_rfl) (fun w M => M.cell 2 rfl (by decide) rfl) ?_
  refine qV (M.drop (.cons_cons _ (.cons_cons _ (.cons_cons _ ((List.sublist_append_left _ _).trans (List.sublist_append_right _ _)))))) 4 204 (.pointer (some ⟨gr, 0, none⟩)) ?_
  refine qV (M.drop (.cons_cons _ (.cons_cons _ (.cons_cons _ ((List.sublist_append_left _ _).trans (List.sublist_append_right _ _)))))) 5 205 (.pointer (some ⟨gr, 0, none⟩)) ?_
  refine hl_cell (M.drop (.cons_cons _ (.cons_cons _ (.cons_cons _ ((List.sublist_append_left _ _).trans (List.sublist_append_right _ _)))))) 6 rfl (by decide) (by kernel_rfl) (by kernel_rfl) (want_no rfl) (some 206) rfl 59 _ rfl gr 0 (by kernel_rfl) (.slice lQ SQ.length kQ) (fun _ => by kernel_rfl) (fun w M => (hcQ _ (M.thereM (pre := [sB g2 6 id fi nw, lB g1 rc ct rk lf zz, zO z gs gr tv xv]) (T := (gB gr svq :: Tsq)) (suf := []) (by simp only [List.append_assoc, List.cons_append, List.nil_append, List.append_nil]))).1) ?_
  refine qV (M.drop (.cons_cons _ (.cons_cons _ (.cons_cons _ ((List.sublist_append_left _ _).trans (List.sublist_append_right _ _)))))) 7 207 (.int .i64 (i : Int)) ?_
  refine hl_val (M.drop (.cons_cons _ (.cons_cons _ (.cons_cons _ ((List.sublist_append_left _ _).trans (List.sublist_append_right _ _)))))) 8 rfl (by decide) (by kernel_rfl) (by kernel_rfl) (want_no rfl) (some 208) rfl (.pointer (some ⟨bQ, (0 + i * 2), none⟩)) (fun w _ => (run_ixK 59 72 2 Tryz.underlying59 inz72 _ _ rfl lQ bQ 0 SQ.length kQ (by kernel_rfl) (hlQ (by omega)) .i64 i (by kernel_rfl) (by omega)) w) ?_
  refine qV (M.drop (.cons_cons _ (.cons_cons _ (.cons_cons _ ((List.sublist_append_left _ _).trans (List.sublist_append_right _ _)))))) 9 209 (.pointer (some ⟨bQ, ((0 + i * 2) + 1), none⟩)) ?_
  refine hl_cell (M.drop (.cons_cons _ (.cons_cons _ (.cons_cons _ ((List.sublist_append_left _ _).trans (List.sublist_append_right _ _)))))) 10 rfl (by decide) (by kernel_rfl) (by kernel_rfl) (want_no rfl) (some 210) rfl 32 _ rfl bQ ((0 + i * 2) + 1) (by kernel_rfl) (.pointer (some ⟨(sJ SQ i), 0, none⟩)) (fun _ => by kernel_rfl) (fun w M => ((hcQ _ (M.thereM (pre := [sB g2 6 id fi nw, lB g1 rc ct rk lf zz, zO z gs gr tv xv]) (T := (gB gr svq :: Tsq)) (suf := []) (by simp only [List.append_assoc, List.cons_append, List.nil_append, List.append_nil]))).2.2 i (by omega))) ?_
  refine qV (M.drop (.cons_cons _ (.cons_cons _ (.cons_cons _ ((List.sublist_append_left _ _).trans (List.sublist_append_right _ _)))))) 11 211 (.pointer (some ⟨g2, 3, none⟩)) ?_
  refine hl_cell (M.drop (.cons_cons _ (.cons_cons _ (.cons_cons _ ((List.sublist_append_left _ _).trans (List.sublist_append_right _ _)))))) 12 rfl (by decide) (by kernel_rfl) (by kernel_rfl) (want_no rfl) (some 212) rfl 24 _ rfl g2 3 (by kernel_rfl) (.int .u64 (nw : Int)) (fun _ => by kernel_rfl) (fun w M => M.cell 0 rfl (by decide) rfl) ?_
  refine hl_one 13 (by decide) (by kernel_rfl) rfl ?_
  refine pl_callM M (want_no rfl) (some 213) rfl 27 #[.pointer (some ⟨(sJ SQ i), 0, none⟩), .int .u64 (nw : Int), .string ⟨#[120]⟩] (sB g2 6 id fi nw :: lB g1 rc ct rk lf zz :: zO z gs gr tv xv :: (G2 ++ (gB gr svq :: Tsq))) (Bq) ((Tt ++ Tx)) (by simp only [List.append_assoc, List.cons_append, List.nil_append, List.append_nil]) (fun B0 => .tuple #[.int .u64 (((pX (Y (K i)) (gn (K i))).sN nw ⟨#[120]⟩ : Nat) : Int), .string ((pX (Y (K i)) (gn (K i))).sC nw ⟨#[120]⟩), .int .i64 ((pX (Y (K i)) (gn (K i))).sE nw ⟨#[120]⟩)]) (fun B0 => B0) (fun B0 => Row (rD dp (upd Y (K i) (jS (Y (K i)) (gn (K i)) nw ⟨#[120]⟩)) (upd gn (K i) (gn (K i)))) N B0) (fun _ => by kernel_rfl) (fun w hL hT => by rw [(hj.kQ i (by omega)).2]; exact q_Seal hBq (hj.kP i hi).1 (hj.dk _ (hj.kP i hi).1).1 hnw (by decide) w hL hT) ?_
  rintro B2 u9 hB2 M
  replace M : Mem (zX w z gs gr tv xv (G ++ ((gB gr svq :: Tsq) ++ (Bq ++ (Tt ++ Tx))))) (sB g2 6 id fi nw :: lB g1 rc ct rk lf zz :: zO z gs gr tv xv :: (G2 ++ ((gB gr svq :: Tsq) ++ (B2 ++ (Tt ++ Tx))))) u9 := by simpa only [List.append_assoc, List.cons_append, List.nil_append, List.append_nil] using M
  refine nT ?_
  refine ⟨(M.drop (.cons_cons _ (.cons_cons _ (.cons_cons _ ((List.sublist_append_left _ _).trans (List.sublist_append_right _ _)))))), ?_⟩
  refine qV (M.drop (.cons_cons _ (.cons_cons _ (.cons_cons _ ((List.sublist_append_left _ _).trans (List.sublist_append_right _ _)))))) 14 199 (.tuple #[.int .u64 (((pX (Y (K i)) (gn (K i))).sN nw ⟨#[120]⟩ : Nat) : Int), .string ((pX (Y (K i)) (gn (K i))).sC nw ⟨#[120]⟩), .int .i64 ((pX (Y (K i)) (gn (K i))).sE nw ⟨#[120]⟩)]) ?_
  refine qV (M.drop (.cons_cons _ (.cons_cons _ (.cons_cons _ ((List.sublist_append_left _ _).trans (List.sublist_append_right _ _)))))) 15 214 (.int .u64 (((pX (Y (K i)) (gn (K i))).sN nw ⟨#[120]⟩ : Nat) : Int)) ?_
  refine qV (M.drop (.cons_cons _ (.cons_cons _ (.cons_cons _ ((List.sublist_append_left _ _).trans (List.sublist_append_right _ _)))))) 16 215 (.string ((pX (Y (K i)) (gn (K i))).sC nw ⟨#[120]⟩)) ?_
  refine qV (M.drop (.cons_cons _ (.cons_cons _ (.cons_cons _ ((List.sublist_append_left _ _).trans (List.sublist_append_right _ _)))))) 17 216 (.int .i64 ((pX (Y (K i)) (gn (K i))).sE nw ⟨#[120]⟩)) ?_
  refine qV (M.drop (.cons_cons _ (.cons_cons _ (.cons_cons _ ((List.sublist_append_left _ _).trans (List.sublist_append_right _ _)))))) 18 19 (.int .u64 (((pX (Y (K i)) (gn (K i))).sN nw ⟨#[120]⟩ : Nat) : Int)) ?_
  refine qV (M.drop (.cons_cons _ (.cons_cons _ (.cons_cons _ ((List.sublist_append_left _ _).trans (List.sublist_append_right _ _)))))) 19 20 (.string ((pX (Y (K i)) (gn (K i))).sC nw ⟨#[120]⟩)) ?_
  refine hl_end (by kernel_rfl) (by kernel_rfl) rfl ?_
  refine rV 1 <| nT <| au_then <| sR <| rV 2 ?_
  refine ZT 219 ((((pX (Y (K i)) (gn (K i))).sN nw ⟨#[120]⟩ : Nat) : Int) = (((pX (Y (K i)) (gn (K i))).sN nw ⟨#[120]⟩ : Nat) : Int)) ?_
  refine rV 3 ?_
  refine pl_val (want_on 3 true rfl 220 rfl (by kernel_rfl)) (some 223) rfl (.bool true) (fun w => Eq.trans (b := .ok (.value (.bool (((pX (Y (K i)) (gn (K i))).sC nw ⟨#[120]⟩).toList == ((pX (Y (K i)) (gn (K i))).sC nw ⟨#[120]⟩).toList))) w) (by kernel_rfl) (by rw [beq_self_eq_true])) ?_
  refine rV 4 ?_
  refine pl_val (want_on 8 true rfl 225 rfl (by kernel_rfl)) (some 228) rfl (.bool true) (fun w => Eq.trans (b := .ok (.value (.bool (decide (((pX (Y (K i)) (gn (K i))).sE nw ⟨#[120]⟩) = ((pX (Y (K i)) (gn (K i))).sE nw ⟨#[120]⟩))))) w) (by kernel_rfl) (by rw [decide_eq_true (by omega)])) ?_
  refine rV 2 <| nT <| wp_ret ?_
  refine au_block_ret ?_
  refine au_then_ret ?_
  rw [pX_sX (hj.dk _ (hj.kP i hi).1).1.k1, upd_pX] at hG2
  exact bodyPost_ret (v := .bool true) (results_tmp1 Tryz.results17 _ _ _ (by kernel_rfl)) (by kernel_rfl) ⟨_, rfl, ⟨gs, gr, SP, SQ, N, K, tp, dp, _, _, G2, gB gr svq :: (Tsq ++ B2), tv, Tt, xv, Tx, rfl, hG2, ⟨svq, Tsq, B2, rfl, hSq, hB2⟩, htv, hxv, hj.turn (jS_dk (hj.dk _ (hj.kP i hi).1).1).1 (by rw [(jS_dk (hj.dk _ (hj.kP i hi).1).1).2]; exact Nat.le_succ_of_le (hj.dk _ (hj.kP i hi).1).2)⟩, by simpa only [List.append_assoc, List.cons_append] using ((M.drop (.cons _ (.cons _ (.cons_cons _ (List.Sublist.refl _)))))).okT0⟩
open Go.RowKit
theorem d_5N {z c gs gr N : Nat} {SP SQ : List Sl} {K tp dp : Nat → Nat} {Y : Nat → TS} {gn : Nat → Bool} {G H Tt Tx : List Blk} {tv xv : Value} (hG : IsPS gs SP N tp (fun k => pX (Y k) (gn k)) G) (hH : IsQS gr SQ N dp Y gn H) (htv : SlW 1 (vT tp N) N tv Tt) (hxv : SlW 1 (vT dp N) N xv Tx) (hj : Jt SP SQ K N tp dp Y c) {rc ct rk lf id nw : Nat} {zz : Int} {fi : Bool} (hx : (ix (fun j => decide (sI SQ j = id)) SQ.length) = -1) (w : World) (hL : Laid w)  (hT : There w (zO z gs gr tv xv :: (G ++ (H ++ (Tt ++ Tx))))) : Calls Tryz.prog 17 #[.pointer (some ⟨z, 0, none⟩), .agg (av 5 (ls (lR rc ct rk lf zz))), .agg (av 4 (ls (sR_ 5 id fi nw)))] w fun r w' => ∃ Z', r = .returned (.bool true) ∧ IsJ z (c + 1) Z' ∧ OkT w w' (zO z gs gr tv xv :: (G ++ (H ++ (Tt ++ Tx)))) Z' := by
 go_enter Tryz.func17, Tryz.ntmps17
 have M : Mem (zX w z gs gr tv xv (G ++ (H ++ (Tt ++ Tx)))) (zO z gs gr tv xv :: (G ++ (H ++ (Tt ++ Tx)))) w := Mem.startT hL hT
 obtain ⟨lQ, bQ, kQ, hlQ, hcQ⟩ := h_look hH
 have hl3 := hj.l3
 have hlen := hj.len
 refine sR ?_
 refine pN M 4 (.cells (av 5 (ls (lR rc ct rk lf zz))) 26) fun g1 u1 M => ?_
 replace M := M.front
 replace M : Mem (zX w z gs gr tv xv (G ++ (H ++ (Tt ++ Tx)))) (lB g1 rc ct rk lf zz :: zO z gs gr tv xv :: (G ++ (H ++ (Tt ++ Tx)))) u1 := M
 refine pN M 5 (.cells (av 4 (ls (sR_ 5 id fi nw))) 69) fun g2 u2 M => ?_
 replace M := M.front
 replace M : Mem (zX w z gs gr tv xv (G ++ (H ++ (Tt ++ Tx)))) (sB g2 5 id fi nw :: lB g1 rc ct rk lf zz :: zO z gs gr tv xv :: (G ++ (H ++ (Tt ++ Tx)))) u2 := M
 refine rV 1 <| nT <| wp_seq ?_
 refine rg_held M (sB g2 5 id fi nw :: lB g1 rc ct rk lf zz :: zO z gs gr tv xv :: (G ++ (H ++ (Tt ++ Tx)))) 7 rfl (by kernel_rfl) (by kernel_rfl) (fun _ _ d _ _ h => by cases d <;> exact h) fun u3 M => ?_
 replace M : Mem (zX w z gs gr tv xv (G ++ (H ++ (Tt ++ Tx)))) (sB g2 5 id fi nw :: lB g1 rc ct rk lf zz :: zO z gs gr tv xv :: (G ++ (H ++ (Tt ++ Tx)))) u3 := M
 refine qV M 0 36 (.pointer (some ⟨z, 0, none⟩)) ?_
 refine qV M 1 37 (.pointer (some ⟨z, 0, none⟩)) ?_
 refine qV M 2 38 (.pointer (some ⟨z, 1, none⟩)) ?_
 refine hl_cell M 3 rfl (by decide) (by kernel_rfl) (by kernel_rfl) (want_no rfl) (some 39) rfl 58 _ rfl z 1 (by kernel_rfl) (.pointer (some ⟨gr, 0, none⟩)) (fun _ => by kernel_rfl) (fun w M => M.cell 2 rfl (by decide) rfl) ?_
 refine qV M 4 40 (.pointer (some ⟨g2, 1, none⟩)) ?_
 refine hl_cell M 5 rfl (by decide) (by kernel_rfl) (by kernel_rfl) (want_no rfl) (some 41) rfl 67 _ rfl g2 1 (by kernel_rfl) (.int .u32 (id : Int)) (fun _ => by kernel_rfl) (fun w M => M.cell 0 rfl (by decide) rfl) ?_
 refine hl_one 6 (by decide) (by kernel_rfl) rfl ?_
 refine pC M 42 34 #[.pointer (some ⟨gr, 0, none⟩), .int .u32 (id : Int)] (.int .i64 (-1)) (fun w M => call_val (h_Find hH (by omega) w M.laid (M.thereM (pre := (sB g2 5 id fi nw :: lB g1 rc ct rk lf zz :: zO z gs gr tv xv :: G)) (T := H) (suf := (Tt ++ Tx)) (by simp only [List.append_assoc, List.cons_append, List.nil_append, List.append_nil]))) (by rw [hx])) fun u4 M => ?_
 refine nT ?_
 refine ⟨M, ?_⟩
 refine hl_end (by kernel_rfl) (by kernel_rfl) rfl ?_
 refine rV 1 <| nT <| au_then <| wp_seq <| sR ?_
 refine rV 1 <| ZE M 44 0 0 <| nT ?_
 refine wp_block ?_
 refine sq <| cF <| sq <| cF <| sq ?_
 refine cF <| sq <| cF <| sq <| cF ?_
 refine sq <| cT <| wp_seq <| sq <| cT ?_
 refine sq <| wp_ret <| au_then_ret ?_
 refine au_block_ret ?_
 refine au_then_ret ?_
 exact bodyPost_ret (v := .bool true) (results_tmp1 Tryz.results17 _ _ _ (by kernel_rfl)) (by kernel_rfl) ⟨_, rfl, ⟨gs, gr, SP, SQ, N, K, tp, dp, Y, gn, G, H, tv, Tt, xv, Tx, rfl, hG, hH, htv, hxv, hj.more⟩, ((M.drop (.cons _ (.cons _ (.cons_cons _ (List.Sublist.refl _)))))).okT0⟩
theorem d_5B {z c gs gr N : Nat} {SP SQ : List Sl} {K tp dp : Nat → Nat} {Y : Nat → TS} {gn : Nat → Bool} {G Tsq Bq Tt Tx : List Blk} {tv xv svq : Value} (hG : IsPS gs SP N tp (fun k => pX (Y k) (gn k)) G) (hSq : SlW 2 (vS SQ) SQ.length svq Tsq) (hBq : Row (rD dp Y gn) N Bq) (htv : SlW 1 (vT tp N) N tv Tt) (hxv : SlW 1 (vT dp N) N xv Tx) (hj : Jt SP SQ K N tp dp Y c) {rc ct rk lf id nw : Nat} {zz : Int} {fi : Bool} {i : Nat} (hx : (ix (fun j => decide (sI SQ j = id)) SQ.length) = (i : Int)) (hi : i < SP.length) (hlim : ¬ (mbB rc ct rk lf = true ∧ 1 ≤ zz ∧ zz ≤ 4096)) (w : World) (hL : Laid w)  (hT : There w (zO z gs gr tv xv :: (G ++ ((gB gr svq :: Tsq) ++ (Bq ++ (Tt ++ Tx)))))) : Calls Tryz.prog 17 #[.pointer (some ⟨z, 0, none⟩), .agg (av 5 (ls (lR rc ct rk lf zz))), .agg (av 4 (ls (sR_ 5 id fi nw)))] w fun r w' => ∃ Z', r = .returned (.bool true) ∧ IsJ z (c + 1) Z' ∧ OkT w w' (zO z gs gr tv xv :: (G ++ ((gB gr svq :: Tsq) ++ (Bq ++ (Tt ++ Tx))))) Z' := by
 go_enter Tryz.func17, Tryz.ntmps17
 have M : Mem (zX w z gs gr tv xv (G ++ ((gB gr svq :: Tsq) ++ (Bq ++ (Tt ++ Tx))))) (zO z gs gr tv xv :: (G ++ ((gB gr svq :: Tsq) ++ (Bq ++ (Tt ++ Tx))))) w := Mem.startT hL hT
 obtain ⟨lQ, bQ, kQ, hlQ, hcQ⟩ := hs_look hSq
 have hl3 := hj.l3
 have hlen := hj.len
 refine sR ?_
 refine pN M 4 (.cells (av 5 (ls (lR rc ct rk lf zz))) 26) fun g1 u1 M => ?_
 replace M := M.front
 replace M : Mem (zX w z gs gr tv xv (G ++ ((gB gr svq :: Tsq) ++ (Bq ++ (Tt ++ Tx))))) (lB g1 rc ct rk lf zz :: zO z gs gr tv xv :: (G ++ ((gB gr svq :: Tsq) ++ (Bq ++ (Tt ++ Tx))))) u1 := M
 refine pN M 5 (.cells (av 4 (ls (sR_ 5 id fi nw))) 69) fun g2 u2 M => ?_
 replace M := M.front
 replace M : Mem (zX w z gs gr tv xv (G ++ ((gB gr svq :: Tsq) ++ (Bq ++ (Tt ++ Tx))))) (sB g2 5 id fi nw :: lB g1 rc ct rk lf zz :: zO z gs gr tv xv :: (G ++ ((gB gr svq :: Tsq) ++ (Bq ++ (Tt ++ Tx))))) u2 := M
 refine rV 1 <| nT <| wp_seq ?_
 refine rg_held M (sB g2 5 id fi nw :: lB g1 rc ct rk lf zz :: zO z gs gr tv xv :: (G ++ ((gB gr svq :: Tsq) ++ (Bq ++ (Tt ++ Tx))))) 7 rfl (by kernel_rfl) (by kernel_rfl) (fun _ _ d _ _ h => by cases d <;> exact h) fun u3 M => ?_
 replace M : Mem (zX w z gs gr tv xv (G ++ ((gB gr svq :: Tsq) ++ (Bq ++ (Tt ++ Tx))))) (sB g2 5 id fi nw :: lB g1 rc ct rk lf zz :: zO z gs gr tv xv :: (G ++ ((gB gr svq :: Tsq) ++ (Bq ++ (Tt ++ Tx))))) u3 := M
 refine qV M 0 36 (.pointer (some ⟨z, 0, none⟩)) ?_
 refine qV M 1 37 (.pointer (some ⟨z, 0, none⟩)) ?_
 refine qV M 2 38 (.pointer (some ⟨z, 1, none⟩)) ?_
 refine hl_cell M 3 rfl (by decide) (by kernel_rfl) (by kernel_rfl) (want_no rfl) (some 39) rfl 58 _ rfl z 1 (by kernel_rfl) (.pointer (some ⟨gr, 0, none⟩)) (fun _ => by kernel_rfl) (fun w M => M.cell 2 rfl (by decide) rfl) ?_
 refine qV M 4 40 (.pointer (some ⟨g2, 1, none⟩)) ?_
 refine hl_cell M 5 rfl (by decide) (by kernel_rfl) (by kernel_rfl) (want_no rfl) (some 41) rfl 67 _ rfl g2 1 (by kernel_rfl) (.int .u32 (id : Int)) (fun _ => by kernel_rfl) (fun w M => M.cell 0 rfl (by decide) rfl) ?_
 refine hl_one 6 (by decide) (by kernel_rfl) rfl ?_
 refine pC M 42 34 #[.pointer (some ⟨gr, 0, none⟩), .int .u32 (id : Int)] (.int .i64 (i : Int)) (fun w M => call_val (c_find hlQ (by omega) w M.laid (hcQ _ (M.thereM (pre := (sB g2 5 id fi nw :: lB g1 rc ct rk lf zz :: zO z gs gr tv xv :: G)) (T := (gB gr svq :: Tsq)) (suf := (Bq ++ (Tt ++ Tx))) (by simp only [List.append_assoc, List.cons_append, List.nil_append, List.append_nil]))).1 (hcQ _ (M.thereM (pre := (sB g2 5 id fi nw :: lB g1 rc ct rk lf zz :: zO z gs gr tv xv :: G)) (T := (gB gr svq :: Tsq)) (suf := (Bq ++ (Tt ++ Tx))) (by simp only [List.append_assoc, List.cons_append, List.nil_append, List.append_nil]))).2.1) (by rw [hx])) fun u4 M => ?_
 refine nT ?_
 refine ⟨M, ?_⟩
 refine hl_end (by kernel_rfl) (by kernel_rfl) rfl ?_
 refine rV 1 <| nT <| au_then <| wp_seq <| sR ?_
 refine rV 1 <| ZE M 44 0 0 <| nT ?_
 refine wp_block ?_
 refine sq <| cF <| sq <| cF <| sq ?_
 refine cF <| sq <| cF <| sq <| cF ?_
 refine sq <| cT <| wp_seq <| sR <| rV 1 ?_
 by_cases c0 : (i : Int) < 0
 ·exfalso; omega
 ·refine pH 233 (.bool false) (jF ((i : Int) < 0) (c0)) ?_
  refine nT <| cF <| wp_skip <| au_then <| wp_seq ?_
  refine rg_held M (sB g2 5 id fi nw :: lB g1 rc ct rk lf zz :: zO z gs gr tv xv :: (G ++ ((gB gr svq :: Tsq) ++ (Bq ++ (Tt ++ Tx))))) 24 rfl (by kernel_rfl) (by kernel_rfl) (fun _ _ d _ _ h => by cases d <;> exact h) fun u5 M => ?_
  replace M : Mem (zX w z gs gr tv xv (G ++ ((gB gr svq :: Tsq) ++ (Bq ++ (Tt ++ Tx))))) (sB g2 5 id fi nw :: lB g1 rc ct rk lf zz :: zO z gs gr tv xv :: (G ++ ((gB gr svq :: Tsq) ++ (Bq ++ (Tt ++ Tx))))) u5 := M
  refine qV M 0 235 (.pointer (some ⟨z, 0, none⟩)) ?_
  refine qV M 1 236 (.pointer (some ⟨z, 0, none⟩)) ?_
  refine qV M 2 237 (.pointer (some ⟨z, 1, none⟩)) ?_
  refine hl_cell M 3 rfl (by decide) (by kernel_rfl) (by kernel_rfl) (want_no rfl) (some 238) rfl 58 _ rfl z 1 (by kernel_rfl) (.pointer (some ⟨gr, 0, none⟩)) (fun _ => by kernel_rfl) (fun w M => M.cell 2 rfl (by decide) rfl) ?_
  refine qV M 4 239 (.pointer (some ⟨gr, 0, none⟩)) ?_
  refine qV M 5 240 (.pointer (some ⟨gr, 0, none⟩)) ?_
  refine hl_cell M 6 rfl (by decide) (by kernel_rfl) (by kernel_rfl) (want_no rfl) (some 241) rfl 59 _ rfl gr 0 (by kernel_rfl) (.slice lQ SQ.length kQ) (fun _ => by kernel_rfl) (fun w M => (hcQ _ (M.thereM (pre := (sB g2 5 id fi nw :: lB g1 rc ct rk lf zz :: zO z gs gr tv xv :: G)) (T := (gB gr svq :: Tsq)) (suf := (Bq ++ (Tt ++ Tx))) (by simp only [List.append_assoc, List.cons_append, List.nil_append, List.append_nil]))).1) ?_
  refine qV M 7 242 (.int .i64 (i : Int)) ?_
  refine hl_val M 8 rfl (by decide) (by kernel_rfl) (by kernel_rfl) (want_no rfl) (some 243) rfl (.pointer (some ⟨bQ, (0 + i * 2), none⟩)) (fun w _ => (run_ixK 59 72 2 Tryz.underlying59 inz72 _ _ rfl lQ bQ 0 SQ.length kQ (by kernel_rfl) (hlQ (by omega)) .i64 i (by kernel_rfl) (by omega)) w) ?_
  refine qV M 9 244 (.pointer (some ⟨bQ, ((0 + i * 2) + 1), none⟩)) ?_
  refine hl_cell M 10 rfl (by decide) (by kernel_rfl) (by kernel_rfl) (want_no rfl) (some 245) rfl 32 _ rfl bQ ((0 + i * 2) + 1) (by kernel_rfl) (.pointer (some ⟨(sJ SQ i), 0, none⟩)) (fun _ => by kernel_rfl) (fun w M => ((hcQ _ (M.thereM (pre := (sB g2 5 id fi nw :: lB g1 rc ct rk lf zz :: zO z gs gr tv xv :: G)) (T := (gB gr svq :: Tsq)) (suf := (Bq ++ (Tt ++ Tx))) (by simp only [List.append_assoc, List.cons_append, List.nil_append, List.append_nil]))).2.2 i (by omega))) ?_
  refine qV M 11 246 (.pointer (some ⟨(sJ SQ i), 0, none⟩)) ?_
  refine qV M 12 247 (.pointer (some ⟨(sJ SQ i), 2, none⟩)) ?_
  refine hl_cell M 13 rfl (by decide) (by kernel_rfl) (by kernel_rfl) (want_no rfl) (some 248) rfl 4 _ rfl (sJ SQ i) 2 (by kernel_rfl) (.bool ((Y (K i)).fi)) (fun _ => by kernel_rfl) (fun w M => (by rw [(hj.kQ i (by omega)).2]; exact (q_cells hBq (hj.kP i hi).1 (M.thereM (pre := (sB g2 5 id fi nw :: lB g1 rc ct rk lf zz :: zO z gs gr tv xv :: (G ++ (gB gr svq :: Tsq)))) (T := Bq) (suf := (Tt ++ Tx)) (by simp only [List.append_assoc, List.cons_append, List.nil_append, List.append_nil]))).2.2.2.1)) ?_
  refine hl_val M 14 rfl (by decide) (by kernel_rfl) (by kernel_rfl) (want_no rfl) (some 249) rfl (.bool ((!(Y (K i)).fi))) (fun w _ => (fun w => by rcases Bool.eq_false_or_eq_true (Y (K i)).fi with h_ | h_ <;> rw [h_] <;> kernel_rfl) w) ?_
  refine qV M 16 251 (.pointer (some ⟨g2, 3, none⟩)) ?_
  refine hl_cell M 17 rfl (by decide) (by kernel_rfl) (by kernel_rfl) (want_no rfl) (some 252) rfl 24 _ rfl g2 3 (by kernel_rfl) (.int .u64 (nw : Int)) (fun _ => by kernel_rfl) (fun w M => M.cell 0 rfl (by decide) rfl) ?_
  refine hl_load M 18 rfl (by decide) (by kernel_rfl) (by kernel_rfl) (want_no rfl) (some 253) rfl 26 _ rfl 1 g1 0 (by kernel_rfl) 5 26 (ls (lR rc ct rk lf zz)) rfl 5 (ls (lR rc ct rk lf zz)) (fun j _ => by rw [Nat.zero_add]) (by decide) _ Tryz.underlying26 rfl inz26 ?_
  refine hl_one 15 (by decide) (by kernel_rfl) rfl ?_
  refine ZC M 250 (fun w M => c_gotF (!(Y (K i)).fi) w M.laid) fun u6 M => ?_
  refine nT ?_
  refine ⟨M, ?_⟩
  refine hl_one 19 (by decide) (by kernel_rfl) rfl ?_
  refine ZC M 254 (fun w M => c_TNewE (y0 := ⟨#[]⟩) (y1 := ⟨#[]⟩) (sd := keyS (!(Y (K i)).fi)) (rv := keyS (!(!(Y (K i)).fi))) (y4 := ⟨#[]⟩) (fi := true) (mt := nw) (rc := rc) (ct := ct) (rk := rk) (lf := lf) (z := zz) (fun _ _ h => Classical.byContradiction fun hc => hlim ⟨h, by omega, by omega⟩) w M.laid) fun u7 M => ?_
  refine nT ?_
  refine ⟨M, ?_⟩
  refine qV M 20 234 (.tuple #[.pointer none, .int .i64 2]) ?_
  refine qV M 21 255 (.pointer none) ?_
  refine qV M 22 256 (.int .i64 2) ?_
  refine qV M 23 22 (.pointer none) ?_
  refine hl_end (by kernel_rfl) (by kernel_rfl) rfl ?_
  refine rV 1 <| nT <| au_then <| wp_seq <| sq ?_
  refine cT <| sq <| wp_ret <| au_then_ret ?_
  refine au_block_ret ?_
  refine au_then_ret ?_
  exact bodyPost_ret (v := .bool true) (results_tmp1 Tryz.results17 _ _ _ (by kernel_rfl)) (by kernel_rfl) ⟨_, rfl, ⟨gs, gr, SP, SQ, N, K, tp, dp, Y, gn, G, gB gr svq :: (Tsq ++ Bq), tv, Tt, xv, Tx, rfl, hG, ⟨svq, Tsq, Bq, rfl, hSq, hBq⟩, htv, hxv, hj.more⟩, by simpa only [List.append_assoc, List.cons_append] using ((M.drop (.cons _ (.cons _ (.cons_cons _ (List.Sublist.refl _)))))).okT0⟩
theorem d_5F {z c gs gr N : Nat} {SP SQ : List Sl} {K tp dp : Nat → Nat} {Y : Nat → TS} {gn : Nat → Bool} {G Tsq Bq Tt Tx : List Blk} {tv xv svq : Value} (hG : IsPS gs SP N tp (fun k => pX (Y k) (gn k)) G) (hSq : SlW 2 (vS SQ) SQ.length svq Tsq) (hBq : Row (rD dp Y gn) N Bq) (htv : SlW 1 (vT tp N) N tv Tt) (hxv : SlW 1 (vT dp N) N xv Tx) (hj : Jt SP SQ K N tp dp Y c) {rc ct rk lf id nw : Nat} {zz : Int} {fi : Bool} (hnw : nw < 18446744073709551616) {s : Nat} (hzs : (s : Int) = zz) (hmb : mbB rc ct rk lf = true) (hs : 1 ≤ s) (hs4 : s ≤ 4096) (hc : c < 10000) {i : Nat} (hx : (ix (fun j => decide (sI SQ j = id)) SQ.length) = (i : Int)) (hi : i < SP.length) (hid : sI SP i = id) (h0 : ∀ j, j < i → ¬ sI SP j = id) (w : World) (hL : Laid w)  (hT : There w (zO z gs gr tv xv :: (G ++ ((gB gr svq :: Tsq) ++ (Bq ++ (Tt ++ Tx)))))) : Calls Tryz.prog 17 #[.pointer (some ⟨z, 0, none⟩), .agg (av 5 (ls (lR rc ct rk lf zz))), .agg (av 4 (ls (sR_ 5 id fi nw)))] w fun r w' => ∃ Z', r = .returned (.bool true) ∧ IsJ z (c + 1) Z' ∧ OkT w w' (zO z gs gr tv xv :: (G ++ ((gB gr svq :: Tsq) ++ (Bq ++ (Tt ++ Tx))))) Z' := by
 go_enter Tryz.func17, Tryz.ntmps17
 have M : Mem (zX w z gs gr tv xv (G ++ ((gB gr svq :: Tsq) ++ (Bq ++ (Tt ++ Tx))))) (zO z gs gr tv xv :: (G ++ ((gB gr svq :: Tsq) ++ (Bq ++ (Tt ++ Tx))))) w := Mem.startT hL hT
 obtain ⟨lQ, bQ, kQ, hlQ, hcQ⟩ := hs_look hSq
 have hl3 := hj.l3
 have hlen := hj.len
 refine sR ?_
 refine pN M 4 (.cells (av 5 (ls (lR rc ct rk lf zz))) 26) fun g1 u1 M => ?_
 replace M := M.front
 replace M : Mem (zX w z gs gr tv xv (G ++ ((gB gr svq :: Tsq) ++ (Bq ++ (Tt ++ Tx))))) (lB g1 rc ct rk lf zz :: zO z gs gr tv xv :: (G ++ ((gB gr svq :: Tsq) ++ (Bq ++ (Tt ++ Tx))))) u1 := M
 refine pN M 5 (.cells (av 4 (ls (sR_ 5 id fi nw))) 69) fun g2 u2 M => ?_
 replace M := M.front
 replace M : Mem (zX w z gs gr tv xv (G ++ ((gB gr svq :: Tsq) ++ (Bq ++ (Tt ++ Tx))))) (sB g2 5 id fi nw :: lB g1 rc ct rk lf zz :: zO z gs gr tv xv :: (G ++ ((gB gr svq :: Tsq) ++ (Bq ++ (Tt ++ Tx))))) u2 := M
 refine rV 1 <| nT <| wp_seq ?_
 refine rg_held M (sB g2 5 id fi nw :: lB g1 rc ct rk lf zz :: zO z gs gr tv xv :: (G ++ ((gB gr svq :: Tsq) ++ (Bq ++ (Tt ++ Tx))))) 7 rfl (by kernel_rfl) (by kernel_rfl) (fun _ _ d _ _ h => by cases d <;> exact h) fun u3 M => ?_
 replace M : Mem (zX w z gs gr tv xv (G ++ ((gB gr svq :: Tsq) ++ (Bq ++ (Tt ++ Tx))))) (sB g2 5 id fi nw :: lB g1 rc ct rk lf zz :: zO z gs gr tv xv :: (G ++ ((gB gr svq :: Tsq) ++ (Bq ++ (Tt ++ Tx))))) u3 := M
 refine qV M 0 36 (.pointer (some ⟨z, 0, none⟩)) ?_
 refine qV M 1 37 (.pointer (some ⟨z, 0, none⟩)) ?_
 refine qV M 2 38 (.pointer (some ⟨z, 1, none⟩)) ?_
 refine hl_cell M 3 rfl (by decide) (by kernel_rfl) (by kernel_rfl) (want_no rfl) (some 39) rfl 58 _ rfl z 1 (by kernel_rfl) (.pointer (some ⟨gr, 0, none⟩)) (fun _ => by kernel_rfl) (fun w M => M.cell 2 rfl (by decide) rfl) ?_
 refine qV M 4 40 (.pointer (some ⟨g2, 1, none⟩)) ?_
 refine hl_cell M 5 rfl (by decide) (by kernel_rfl) (by kernel_rfl) (want_no rfl) (some 41) rfl 67 _ rfl g2 1 (by kernel_rfl) (.int .u32 (id : Int)) (fun _ => by kernel_rfl) (fun w M => M.cell 0 rfl (by decide) rfl) ?_
 refine hl_one 6 (by decide) (by kernel_rfl) rfl ?_
 refine pC M 42 34 #[.pointer (some ⟨gr, 0, none⟩), .int .u32 (id : Int)] (.int .i64 (i : Int)) (fun w M => call_val (c_find hlQ (by omega) w M.laid (hcQ _ (M.thereM (pre := (sB g2 5 id fi nw :: lB g1 rc ct rk lf zz :: zO z gs gr tv xv :: G)) (T := (gB gr svq :: Tsq)) (suf := (Bq ++ (Tt ++ Tx))) (by simp only [List.append_assoc, List.cons_append, List.nil_append, List.append_nil]))).1 (hcQ _ (M.thereM (pre := (sB g2 5 id fi nw :: lB g1 rc ct rk lf zz :: zO z gs gr tv xv :: G)) (T := (gB gr svq :: Tsq)) (suf := (Bq ++ (Tt ++ Tx))) (by simp only [List.append_assoc, List.cons_append, List.nil_append, List.append_nil]))).2.1) (by rw [hx])) fun u4 M => ?_
 refine nT ?_
 refine ⟨M, ?_⟩
 refine hl_end (by kernel_rfl) (by kernel_rfl) rfl ?_
 refine rV 1 <| nT <| au_then <| wp_seq <| sR ?_
 refine rV 1 <| ZE M 44 0 0 <| nT ?_
 refine wp_block ?_
 refine sq <| cF <| sq <| cF <| sq ?_
 refine cF <| sq <| cF <| sq <| cF ?_
 refine sq <| cT <| wp_seq <| sR <| rV 1 ?_
 by_cases c0 : (i : Int) < 0
 ·exfalso; omega
 ·refine pH 233 (.bool false) (jF ((i : Int) < 0) (c0)) ?_
  refine nT <| cF <| wp_skip <| au_then <| wp_seq ?_
  refine rg_held M (sB g2 5 id fi nw :: lB g1 rc ct rk lf zz :: zO z gs gr tv xv :: (G ++ ((gB gr svq :: Tsq) ++ (Bq ++ (Tt ++ Tx))))) 24 rfl (by kernel_rfl) (by kernel_rfl) (fun _ _ d _ _ h => by cases d <;> exact h) fun u5 M => ?_
  replace M : Mem (zX w z gs gr tv xv (G ++ ((gB gr svq :: Tsq) ++ (Bq ++ (Tt ++ Tx))))) (sB g2 5 id fi nw :: lB g1 rc ct rk lf zz :: zO z gs gr tv xv :: (G ++ ((gB gr svq :: Tsq) ++ (Bq ++ (Tt ++ Tx))))) u5 := M
  refine qV M 0 235 (.pointer (some ⟨z, 0, none⟩)) ?_
  refine qV M 1 236 (.pointer (some ⟨z, 0, none⟩)) ?_
  refine qV M 2 237 (.pointer (some ⟨z, 1, none⟩)) ?_
  refine hl_cell M 3 rfl (by decide) (by kernel_rfl) (by kernel_rfl) (want_no rfl) (some 238) rfl 58 _ rfl z 1 (by kernel_rfl) (.pointer (some ⟨gr, 0, none⟩)) (fun _ => by kernel_rfl) (fun w M => M.cell 2 rfl (by decide) rfl) ?_
  refine qV M 4 239 (.pointer (some ⟨gr, 0, none⟩)) ?_
  refine qV M 5 240 (.pointer (some ⟨gr, 0, none⟩)) ?_
  refine hl_cell M 6 rfl (by decide) (by kernel_rfl) (by kernel_rfl) (want_no rfl) (some 241) rfl 59 _ rfl gr 0 (by kernel_rfl) (.slice lQ SQ.length kQ) (fun _ => by kernel_rfl) (fun w M => (hcQ _ (M.thereM (pre := (sB g2 5 id fi nw :: lB g1 rc ct rk lf zz :: zO z gs gr tv xv :: G)) (T := (gB gr svq :: Tsq)) (suf := (Bq ++ (Tt ++ Tx))) (by simp only [List.append_assoc, List.cons_append, List.nil_append, List.append_nil]))).1) ?_
  refine qV M 7 242 (.int .i64 (i : Int)) ?_
  refine hl_val M 8 rfl (by decide) (by kernel_rfl) (by kernel_rfl) (want_no rfl) (some 243) rfl (.pointer (some ⟨bQ, (0 + i * 2), none⟩)) (fun w _ => (run_ixK 59 72 2 Tryz.underlying59 inz72 _ _ rfl lQ bQ 0 SQ.length kQ (by kernel_rfl) (hlQ (by omega)) .i64 i (by kernel_rfl) (by omega)) w) ?_
  refine qV M 9 244 (.pointer (some ⟨bQ, ((0 + i * 2) + 1), none⟩)) ?_
  refine hl_cell M 10 rfl (by decide) (by kernel_rfl) (by kernel_rfl) (want_no rfl) (some 245) rfl 32 _ rfl bQ ((0 + i * 2) + 1) (by kernel_rfl) (.pointer (some ⟨(sJ SQ i), 0, none⟩)) (fun _ => by kernel_rfl) (fun w M => ((hcQ _ (M.thereM (pre := (sB g2 5 id fi nw :: lB g1 rc ct rk lf zz :: zO z gs gr tv xv :: G)) (T := (gB gr svq :: Tsq)) (suf := (Bq ++ (Tt ++ Tx))) (by simp only [List.append_assoc, List.cons_append, List.nil_append, List.append_nil]))).2.2 i (by omega))) ?_
  refine qV M 11 246 (.pointer (some ⟨(sJ SQ i), 0, none⟩)) ?_
  refine qV M 12 247 (.pointer (some ⟨(sJ SQ i), 2, none⟩)) ?_
  refine hl_cell M 13 rfl (by decide) (by kernel_rfl) (by kernel_rfl) (want_no rfl) (some 248) rfl 4 _ rfl (sJ SQ i) 2 (by kernel_rfl) (.bool ((Y (K i)).fi)) (fun _ => by kernel_rfl) (fun w M => (by rw [(hj.kQ i (by omega)).2]; exact (q_cells hBq (hj.kP i hi).1 (M.thereM (pre := (sB g2 5 id fi nw :: lB g1 rc ct rk lf zz :: zO z gs gr tv xv :: (G ++ (gB gr svq :: Tsq)))) (T := Bq) (suf := (Tt ++ Tx)) (by simp only [List.append_assoc, List.cons_append, List.nil_append, List.append_nil]))).2.2.2.1)) ?_
  refine hl_val M 14 rfl (by decide) (by kernel_rfl) (by kernel_rfl) (want_no rfl) (some 249) rfl (.bool ((!(Y (K i)).fi))) (fun w _ => (fun w => by rcases Bool.eq_false_or_eq_true (Y (K i)).fi with h_ | h_ <;> rw [h_] <;> kernel_rfl) w) ?_
  refine qV M 16 251 (.pointer (some ⟨g2, 3, none⟩)) ?_
  refine hl_cell M 17 rfl (by decide) (by kernel_rfl) (by kernel_rfl) (want_no rfl) (some 252) rfl 24 _ rfl g2 3 (by kernel_rfl) (.int .u64 (nw : Int)) (fun _ => by kernel_rfl) (fun w M => M.cell 0 rfl (by decide) rfl) ?_
  refine hl_load M 18 rfl (by decide) (by kernel_rfl) (by kernel_rfl) (want_no rfl) (some 253) rfl 26 _ rfl 1 g1 0 (by kernel_rfl) 5 26 (ls (lR rc ct rk lf zz)) rfl 5 (ls (lR rc ct rk lf zz)) (fun j _ => by rw [Nat.zero_add]) (by decide) _ Tryz.underlying26 rfl inz26 ?_
  refine hl_one 15 (by decide) (by kernel_rfl) rfl ?_
  refine ZC M 250 (fun w M => c_gotF (!(Y (K i)).fi) w M.laid) fun u6 M => ?_
  refine nT ?_
  refine ⟨M, ?_⟩
  refine hl_one 19 (by decide) (by kernel_rfl) rfl ?_
  refine pl_callM M (want_no rfl) (some 254) rfl 7 #[.agg (av 5 (ls [.string ⟨#[]⟩, .string ⟨#[]⟩, .string (keyS (!(Y (K i)).fi)), .string (keyS (!(!(Y (K i)).fi))), .string ⟨#[]⟩])), .bool true, .int .u64 (nw : Int), .agg (av 5 (ls (lR rc ct rk lf zz)))] (sB g2 5 id fi nw :: lB g1 rc ct rk lf zz :: zO z gs gr tv xv :: (G ++ ((gB gr svq :: Tsq) ++ (Bq ++ (Tt ++ Tx))))) [] [] (by simp only [List.append_assoc, List.cons_append, List.nil_append, List.append_nil]) (fun x : Nat × List Blk => .tuple #[.pointer (some ⟨x.1, 0, none⟩), .int .i64 0]) (fun x : Nat × List Blk => x.2) (fun x : Nat × List Blk => IsT x.1 ⟨rc, ct, rk, lf, s, 0, nw, keyS (!(Y (K i)).fi), keyS (!(!(Y (K i)).fi)), true, true, []⟩ x.2) (fun _ => by kernel_rfl) (fun w hL hT => by rw [← hzs]; exact a_New (keyS_size _) (keyS_size _) hmb hs hs4 w hL) ?_
  rintro ⟨pa, Ta⟩ u7 hIa M
  replace M : Mem (zX w z gs gr tv xv (G ++ ((gB gr svq :: Tsq) ++ (Bq ++ (Tt ++ Tx))))) (sB g2 5 id fi nw :: lB g1 rc ct rk lf zz :: zO z gs gr tv xv :: (G ++ ((gB gr svq :: Tsq) ++ (Bq ++ (Tt ++ (Tx ++ Ta)))))) u7 := by simpa only [List.append_assoc, List.cons_append, List.nil_append, List.append_nil] using M
  refine nT ?_
  refine ⟨(M.drop (.cons_cons _ (.cons_cons _ (.cons_cons _ ((List.Sublist.refl _).append ((List.Sublist.refl _).append ((List.Sublist.refl _).append ((List.Sublist.refl _).append (List.sublist_append_left _ _))))))))), ?_⟩
  refine qV (M.drop (.cons_cons _ (.cons_cons _ (.cons_cons _ ((List.Sublist.refl _).append ((List.Sublist.refl _).append ((List.Sublist.refl _).append ((List.Sublist.refl _).append (List.sublist_append_left _ _))))))))) 20 234 (.tuple #[.pointer (some ⟨pa, 0, none⟩), .int .i64 0]) ?_
  refine qV (M.drop (.cons_cons _ (.cons_cons _ (.cons_cons _ ((List.Sublist.refl _).append ((List.Sublist.refl _).append ((List.Sublist.refl _).append ((List.Sublist.refl _).append (List.sublist_append_left _ _))))))))) 21 255 (.pointer (some ⟨pa, 0, none⟩)) ?_
  refine qV (M.drop (.cons_cons _ (.cons_cons _ (.cons_cons _ ((List.Sublist.refl _).append ((List.Sublist.refl _).append ((List.Sublist.refl _).append ((List.Sublist.refl _).append (List.sublist_append_left _ _))))))))) 22 256 (.int .i64 0) ?_
  refine qV (M.drop (.cons_cons _ (.cons_cons _ (.cons_cons _ ((List.Sublist.refl _).append ((List.Sublist.refl _).append ((List.Sublist.refl _).append ((List.Sublist.refl _).append (List.sublist_append_left _ _))))))))) 23 22 (.pointer (some ⟨pa, 0, none⟩)) ?_
  refine hl_end (by kernel_rfl) (by kernel_rfl) rfl ?_
  refine rV 1 <| nT <| au_then <| wp_seq <| sq ?_
  refine cF <| wp_skip <| au_then <| sR <| rV 2 ?_
  refine ZE M 262 0 3 ?_
  refine pl_callM M (want_no rfl) (some 263) rfl 21 #[.pointer (some ⟨pa, 0, none⟩), .int .u64 (nw : Int), .string ⟨#[120]⟩] (sB g2 5 id fi nw :: lB g1 rc ct rk lf zz :: zO z gs gr tv xv :: (G ++ ((gB gr svq :: Tsq) ++ (Bq ++ (Tt ++ Tx))))) (Ta) [] (by simp only [List.append_assoc, List.cons_append, List.nil_append, List.append_nil]) (fun T0 => .tuple #[.int .u64 0, .string (sealS (keyS (!(Y (K i)).fi)) (nS 0) ⟨#[]⟩ ⟨#[120]⟩), .int .i64 0]) (fun T0 => T0) (fun T0 => IsT pa ⟨rc, ct, rk, lf, s, 1, nw, keyS (!(Y (K i)).fi), keyS (!(!(Y (K i)).fi)), true, true, []⟩ T0) (fun _ => by kernel_rfl) (fun w hL hT => s_ok hIa ⟨hs, hs4, (ct_of hmb).1, Nat.zero_le _⟩ hnw (keyS_size (!(Y (K i)).fi)) (show nw - nw < lf by have := ct_of hmb; omega) (show 0 < ct by have := ct_of hmb; omega) rfl (by decide) w hL hT) ?_
  rintro Ta2 u8 hIb M
  replace M : Mem (zX w z gs gr tv xv (G ++ ((gB gr svq :: Tsq) ++ (Bq ++ (Tt ++ Tx))))) (sB g2 5 id fi nw :: lB g1 rc ct rk lf zz :: zO z gs gr tv xv :: (G ++ ((gB gr svq :: Tsq) ++ (Bq ++ (Tt ++ (Tx ++ Ta2)))))) u8 := by simpa only [List.append_assoc, List.cons_append, List.nil_append, List.append_nil] using M
  refine rV 7 <| nT <| wp_seq ?_
  refine rg_held M (sB g2 5 id fi nw :: lB g1 rc ct rk lf zz :: zO z gs gr tv xv :: (G ++ ((gB gr svq :: Tsq) ++ (Bq ++ (Tt ++ (Tx ++ Ta2)))))) 11 rfl (by kernel_rfl) (by kernel_rfl) (fun _ _ d _ _ h => by cases d <;> exact h) fun u9 M => ?_
  replace M : Mem (zX w z gs gr tv xv (G ++ ((gB gr svq :: Tsq) ++ (Bq ++ (Tt ++ Tx))))) (sB g2 5 id fi nw :: lB g1 rc ct rk lf zz :: zO z gs gr tv xv :: (G ++ ((gB gr svq :: Tsq) ++ (Bq ++ (Tt ++ (Tx ++ Ta2)))))) u9 := M
  refine qV M 0 268 (.pointer (some ⟨z, 0, none⟩)) ?_
  refine qV M 1 269 (.pointer (some ⟨z, 0, none⟩)) ?_
  refine qV M 2 270 (.pointer (some ⟨z, 0, none⟩)) ?_
  refine hl_cell M 3 rfl (by decide) (by kernel_rfl) (by kernel_rfl) (want_no rfl) (some 271) rfl 56 _ rfl z 0 (by kernel_rfl) (.pointer (some ⟨gs, 0, none⟩)) (fun _ => by kernel_rfl) (fun w M => M.cell 2 rfl (by decide) rfl) ?_
  refine qV M 4 272 (.pointer (some ⟨g2, 1, none⟩)) ?_
  refine hl_cell M 5 rfl (by decide) (by kernel_rfl) (by kernel_rfl) (want_no rfl) (some 273) rfl 67 _ rfl g2 1 (by kernel_rfl) (.int .u32 (id : Int)) (fun _ => by kernel_rfl) (fun w M => M.cell 0 rfl (by decide) rfl) ?_
  refine hl_one 6 (by decide) (by kernel_rfl) rfl ?_
  refine pC M 274 35 #[.pointer (some ⟨gs, 0, none⟩), .int .u32 (id : Int)] (.tuple #[.pointer (some ⟨(sJ SP i), 0, none⟩), .int .i64 0]) (fun w M => g_Get1 hG (by omega) hi hid h0 w M.laid (M.thereM (pre := [sB g2 5 id fi nw, lB g1 rc ct rk lf zz, zO z gs gr tv xv]) (T := G) (suf := ((gB gr svq :: Tsq) ++ (Bq ++ (Tt ++ (Tx ++ Ta2))))) (by simp only [List.append_assoc, List.cons_append, List.nil_append, List.append_nil]))) fun u10 M => ?_
  refine nT ?_
  refine ⟨M, ?_⟩
  refine qV M 7 267 (.tuple #[.pointer (some ⟨(sJ SP i), 0, none⟩), .int .i64 0]) ?_
  refine qV M 8 275 (.pointer (some ⟨(sJ SP i), 0, none⟩)) ?_
  refine qV M 9 276 (.int .i64 0) ?_
  refine qV M 10 27 (.pointer (some ⟨(sJ SP i), 0, none⟩)) ?_
  refine hl_end (by kernel_rfl) (by kernel_rfl) rfl ?_
  refine rV 1 <| nT <| au_then <| wp_seq <| sq ?_
  refine cF <| wp_skip <| au_then <| sR <| rV 2 ?_
  refine ZE M 282 0 3 <| rV 2 ?_
  refine pl_callM M (want_no rfl) (some 285) rfl 22 #[.pointer (some ⟨(sJ SP i), 0, none⟩), .int .u64 (nw : Int), .int .u64 0, .string (sealS (keyS (!(Y (K i)).fi)) (nS 0) ⟨#[]⟩ ⟨#[120]⟩)] [sB g2 5 id fi nw, lB g1 rc ct rk lf zz, zO z gs gr tv xv] (G) (((gB gr svq :: Tsq) ++ (Bq ++ (Tt ++ (Tx ++ Ta2))))) (by simp only [List.append_assoc, List.cons_append, List.nil_append, List.append_nil]) (fun G0 => .tuple #[.string ((pX (Y (K i)) (gn (K i))).oC nw 0 (sealS (keyS (!(Y (K i)).fi)) (nS 0) ⟨#[]⟩ ⟨#[120]⟩)), .int .i64 ((pX (Y (K i)) (gn (K i))).oE nw 0 (sealS (keyS (!(Y (K i)).fi)) (nS 0) ⟨#[]⟩ ⟨#[120]⟩))]) (fun G0 => G0) (fun G0 => IsPS gs SP N tp (upd (fun k => pX (Y k) (gn k)) (K i) ((pX (Y (K i)) (gn (K i))).oX nw 0 (sealS (keyS (!(Y (K i)).fi)) (nS 0) ⟨#[]⟩ ⟨#[120]⟩))) G0) (fun _ => by kernel_rfl) (fun w hL hT => by rw [(hj.kP i hi).2]; exact g_Open (i := 0) hG (hj.kP i hi).1 (pX_ok (hj.dk _ (hj.kP i hi).1).1.toOk) hnw (by decide) w hL hT) ?_
  rintro G2 u11 hG2 M
  replace M : Mem (zX w z gs gr tv xv (G ++ ((gB gr svq :: Tsq) ++ (Bq ++ (Tt ++ Tx))))) (sB g2 5 id fi nw :: lB g1 rc ct rk lf zz :: zO z gs gr tv xv :: (G2 ++ ((gB gr svq :: Tsq) ++ (Bq ++ (Tt ++ (Tx ++ Ta2)))))) u11 := by simpa only [List.append_assoc, List.cons_append, List.nil_append, List.append_nil] using M
  refine rV 5 <| nT <| wp_seq ?_
  refine rg_held M (sB g2 5 id fi nw :: lB g1 rc ct rk lf zz :: zO z gs gr tv xv :: (gB gr svq :: Tsq)) 20 rfl (by kernel_rfl) (by kernel_rfl) (fun _ _ d _ _ h => by cases d <;> exact h) fun u12 M => ?_
  replace M : Mem (zX w z gs gr tv xv (G ++ ((gB gr svq :: Tsq) ++ (Bq ++ (Tt ++ Tx))))) (sB g2 5 id fi nw :: lB g1 rc ct rk lf zz :: zO z gs gr tv xv :: (G2 ++ ((gB gr svq :: Tsq) ++ (Bq ++ (Tt ++ (Tx ++ Ta2)))))) u12 := M
  refine qV (M.drop (.cons_cons _ (.cons_cons _ (.cons_cons _ ((List.sublist_append_left _ _).trans (List.sublist_append_right _ _)))))) 0 289 (.pointer (some ⟨z, 0, none⟩)) ?_
  refine qV (M.drop (.cons_cons _ (.cons_cons _ (.cons_cons _ ((List.sublist_append_left _ _).trans (List.sublist_append_right _ _)))))) 1 290 (.pointer (some ⟨z, 0, none⟩)) ?_
  refine qV (M.drop (.cons_cons _ (.cons_cons _ (.cons_cons _ ((List.sublist_append_left _ _).trans (List.sublist_append_right _ _)))))) 2 291 (.pointer (some ⟨z, 1, none⟩)) ?_
  refine hl_cell (M.drop (.cons_cons _ (.cons_cons _ (.cons_cons _ ((List.sublist_append_left _ _).trans (List.sublist_append_right _ _)))))) 3 rfl (by decide) (by kernel_rfl) (by kernel_rfl) (want_no rfl) (some 292) rfl 58 _ rfl z 1 (by kernel_rfl) (.pointer (some ⟨gr, 0, none⟩)) (fun _ => by kernel_rfl) (fun w M => M.cell 2 rfl (by decide) rfl) ?_
  refine qV (M.drop (.cons_cons _ (.cons_cons _ (.cons_cons _ ((List.sublist_append_left _ _).trans (List.sublist_append_right _ _)))))) 4 293 (.pointer (some ⟨gr, 0, none⟩)) ?_
  refine qV (M.drop (.cons_cons _ (.cons_cons _ (.cons_cons _ ((List.sublist_append_left _ _).trans (List.sublist_append_right _ _)))))) 5 294 (.pointer (some ⟨gr, 0, none⟩)) ?_
  refine hl_cell (M.drop (.cons_cons _ (.cons_cons _ (.cons_cons _ ((List.sublist_append_left _ _).trans (List.sublist_append_right _ _)))))) 6 rfl (by decide) (by kernel_rfl) (by kernel_rfl) (want_no rfl) (some 295) rfl 59 _ rfl gr 0 (by kernel_rfl) (.slice lQ SQ.length kQ) (fun _ => by kernel_rfl) (fun w M => (hcQ _ (M.thereM (pre := [sB g2 5 id fi nw, lB g1 rc ct rk lf zz, zO z gs gr tv xv]) (T := (gB gr svq :: Tsq)) (suf := []) (by simp only [List.append_assoc, List.cons_append, List.nil_append, List.append_nil]))).1) ?_
  refine qV (M.drop (.cons_cons _ (.cons_cons _ (.cons_cons _ ((List.sublist_append_left _ _).trans (List.sublist_append_right _ _)))))) 7 296 (.int .i64 (i : Int)) ?_
  refine hl_val (M.drop (.cons_cons _ (.cons_cons _ (.cons_cons _ ((List.sublist_append_left _ _).trans (List.sublist_append_right _ _)))))) 8 rfl (by decide) (by kernel_rfl) (by kernel_rfl) (want_no rfl) (some 297) rfl (.pointer (some ⟨bQ, (0 + i * 2), none⟩)) (fun w _ => (run_ixK 59 72 2 Tryz.underlying59 inz72 _ _ rfl lQ bQ 0 SQ.length kQ (by kernel_rfl) (hlQ (by omega)) .i64 i (by kernel_rfl) (by omega)) w) ?_
  refine qV (M.drop (.cons_cons _ (.cons_cons _ (.cons_cons _ ((List.sublist_append_left _ _).trans (List.sublist_append_right _ _)))))) 9 298 (.pointer (some ⟨bQ, ((0 + i * 2) + 1), none⟩)) ?_
  refine hl_cell (M.drop (.cons_cons _ (.cons_cons _ (.cons_cons _ ((List.sublist_append_left _ _).trans (List.sublist_append_right _ _)))))) 10 rfl (by decide) (by kernel_rfl) (by kernel_rfl) (want_no rfl) (some 299) rfl 32 _ rfl bQ ((0 + i * 2) + 1) (by kernel_rfl) (.pointer (some ⟨(sJ SQ i), 0, none⟩)) (fun _ => by kernel_rfl) (fun w M => ((hcQ _ (M.thereM (pre := [sB g2 5 id fi nw, lB g1 rc ct rk lf zz, zO z gs gr tv xv]) (T := (gB gr svq :: Tsq)) (suf := []) (by simp only [List.append_assoc, List.cons_append, List.nil_append, List.append_nil]))).2.2 i (by omega))) ?_
  refine qV (M.drop (.cons_cons _ (.cons_cons _ (.cons_cons _ ((List.sublist_append_left _ _).trans (List.sublist_append_right _ _)))))) 11 300 (.pointer (some ⟨g2, 3, none⟩)) ?_
  refine hl_cell (M.drop (.cons_cons _ (.cons_cons _ (.cons_cons _ ((List.sublist_append_left _ _).trans (List.sublist_append_right _ _)))))) 12 rfl (by decide) (by kernel_rfl) (by kernel_rfl) (want_no rfl) (some 301) rfl 24 _ rfl g2 3 (by kernel_rfl) (.int .u64 (nw : Int)) (fun _ => by kernel_rfl) (fun w M => M.cell 0 rfl (by decide) rfl) ?_
  refine qV (M.drop (.cons_cons _ (.cons_cons _ (.cons_cons _ ((List.sublist_append_left _ _).trans (List.sublist_append_right _ _)))))) 13 302 (.int .u64 0) ?_
  refine qV (M.drop (.cons_cons _ (.cons_cons _ (.cons_cons _ ((List.sublist_append_left _ _).trans (List.sublist_append_right _ _)))))) 14 303 (.string (sealS (keyS (!(Y (K i)).fi)) (nS 0) ⟨#[]⟩ ⟨#[120]⟩)) ?_
  refine hl_one 15 (by decide) (by kernel_rfl) rfl ?_
  refine pl_callM M (want_no rfl) (some 304) rfl 29 #[.pointer (some ⟨(sJ SQ i), 0, none⟩), .int .u64 (nw : Int), .int .u64 0, .string (sealS (keyS (!(Y (K i)).fi)) (nS 0) ⟨#[]⟩ ⟨#[120]⟩)] (sB g2 5 id fi nw :: lB g1 rc ct rk lf zz :: zO z gs gr tv xv :: (G2 ++ (gB gr svq :: Tsq))) (Bq) ((Tt ++ (Tx ++ Ta2))) (by simp only [List.append_assoc, List.cons_append, List.nil_append, List.append_nil]) (fun B0 => .tuple #[.string ((pX (Y (K i)) (gn (K i))).oC nw 0 (sealS (keyS (!(Y (K i)).fi)) (nS 0) ⟨#[]⟩ ⟨#[120]⟩)), .int .i64 ((pX (Y (K i)) (gn (K i))).oE nw 0 (sealS (keyS (!(Y (K i)).fi)) (nS 0) ⟨#[]⟩ ⟨#[120]⟩))]) (fun B0 => B0) (fun B0 => Row (rD dp (upd Y (K i) (jO (Y (K i)) (gn (K i)) nw 0 (sealS (keyS (!(Y (K i)).fi)) (nS 0) ⟨#[]⟩ ⟨#[120]⟩))) (upd gn (K i) (gn (K i)))) N B0) (fun _ => by kernel_rfl) (fun w hL hT => by rw [(hj.kQ i (by omega)).2]; exact q_Open (i := 0) hBq (hj.kP i hi).1 (hj.dk _ (hj.kP i hi).1).1 hnw (by rw [sealS_size]; decide) w hL hT) ?_
  rintro B2 u13 hB2 M
  replace M : Mem (zX w z gs gr tv xv (G ++ ((gB gr svq :: Tsq) ++ (Bq ++ (Tt ++ Tx))))) (sB g2 5 id fi nw :: lB g1 rc ct rk lf zz :: zO z gs gr tv xv :: (G2 ++ ((gB gr svq :: Tsq) ++ (B2 ++ (Tt ++ (Tx ++ Ta2)))))) u13 := by simpa only [List.append_assoc, List.cons_append, List.nil_append, List.append_nil] using M
  refine nT ?_
  refine ⟨(M.drop (.cons_cons _ (.cons_cons _ (.cons_cons _ ((List.sublist_append_left _ _).trans (List.sublist_append_right _ _)))))), ?_⟩
  refine qV (M.drop (.cons_cons _ (.cons_cons _ (.cons_cons _ ((List.sublist_append_left _ _).trans (List.sublist_append_right _ _)))))) 16 288 (.tuple #[.string ((pX (Y (K i)) (gn (K i))).oC nw 0 (sealS (keyS (!(Y (K i)).fi)) (nS 0) ⟨#[]⟩ ⟨#[120]⟩)), .int .i64 ((pX (Y (K i)) (gn (K i))).oE nw 0 (sealS (keyS (!(Y (K i)).fi)) (nS 0) ⟨#[]⟩ ⟨#[120]⟩))]) ?_
  refine qV (M.drop (.cons_cons _ (.cons_cons _ (.cons_cons _ ((List.sublist_append_left _ _).trans (List.sublist_append_right _ _)))))) 17 305 (.string ((pX (Y (K i)) (gn (K i))).oC nw 0 (sealS (keyS (!(Y (K i)).fi)) (nS 0) ⟨#[]⟩ ⟨#[120]⟩))) ?_
  refine qV (M.drop (.cons_cons _ (.cons_cons _ (.cons_cons _ ((List.sublist_append_left _ _).trans (List.sublist_append_right _ _)))))) 18 306 (.int .i64 ((pX (Y (K i)) (gn (K i))).oE nw 0 (sealS (keyS (!(Y (K i)).fi)) (nS 0) ⟨#[]⟩ ⟨#[120]⟩))) ?_
  refine qV (M.drop (.cons_cons _ (.cons_cons _ (.cons_cons _ ((List.sublist_append_left _ _).trans (List.sublist_append_right _ _)))))) 19 30 (.string ((pX (Y (K i)) (gn (K i))).oC nw 0 (sealS (keyS (!(Y (K i)).fi)) (nS 0) ⟨#[]⟩ ⟨#[120]⟩))) ?_
  refine hl_end (by kernel_rfl) (by kernel_rfl) rfl ?_
  refine rV 1 <| nT <| au_then <| sR <| rV 2 ?_
  refine pH 309 (.bool true) (fun w => Eq.trans (b := .ok (.value (.bool (((pX (Y (K i)) (gn (K i))).oC nw 0 (sealS (keyS (!(Y (K i)).fi)) (nS 0) ⟨#[]⟩ ⟨#[120]⟩)).toList == ((pX (Y (K i)) (gn (K i))).oC nw 0 (sealS (keyS (!(Y (K i)).fi)) (nS 0) ⟨#[]⟩ ⟨#[120]⟩)).toList))) w) (by kernel_rfl) (by rw [beq_self_eq_true])) ?_
  refine rV 3 ?_
  refine pl_val (want_on 3 true rfl 310 rfl (by kernel_rfl)) (some 313) rfl (.bool true) (fun w => Eq.trans (b := .ok (.value (.bool (decide (((pX (Y (K i)) (gn (K i))).oE nw 0 (sealS (keyS (!(Y (K i)).fi)) (nS 0) ⟨#[]⟩ ⟨#[120]⟩)) = ((pX (Y (K i)) (gn (K i))).oE nw 0 (sealS (keyS (!(Y (K i)).fi)) (nS 0) ⟨#[]⟩ ⟨#[120]⟩)))))) w) (by kernel_rfl) (by rw [decide_eq_true (by omega)])) ?_
  refine rV 2 <| nT <| wp_ret ?_
  refine au_block_ret ?_
  refine au_then_ret ?_
  rw [pX_oX (hj.dk _ (hj.kP i hi).1).1.k1, upd_pX] at hG2
  have hq9 := (hj.dk _ (hj.kP i hi).1).2
  have hjO := jO_dk (gn := gn (K i)) (n := nw) (i := 0) (c := (sealS (keyS (!(Y (K i)).fi)) (nS 0) ⟨#[]⟩ ⟨#[120]⟩)) (hj.dk _ (hj.kP i hi).1).1 (by decide) (by omega)
  exact bodyPost_ret (v := .bool true) (results_tmp1 Tryz.results17 _ _ _ (by kernel_rfl)) (by kernel_rfl) ⟨_, rfl, ⟨gs, gr, SP, SQ, N, K, tp, dp, _, _, G2, gB gr svq :: (Tsq ++ B2), tv, Tt, xv, Tx, rfl, hG2, ⟨svq, Tsq, B2, rfl, hSq, hB2⟩, htv, hxv, hj.turn hjO.1 (by have := hjO.2; omega)⟩, by simpa only [List.append_assoc, List.cons_append] using ((M.drop (.cons _ (.cons _ (.cons_cons _ ((List.Sublist.refl _).append ((List.Sublist.refl _).append ((List.Sublist.refl _).append ((List.Sublist.refl _).append (List.sublist_append_left _ _)))))))))).okT0⟩
open Go.RowKit
theorem lx_full (g : Nat → Bool) (n : Nat) : (lx g n = -1 ∧ ∀ j, j < n → g j = false) ∨ ∃ i, i < n ∧ lx g n = (i : Int) ∧ g i = true ∧ ∀ j, i < j → j < n → g j = false := by
 rcases ix_cases (fun j => g (n - 1 - j)) n with ⟨e, h⟩ | ⟨k, h1, e, h2, h3⟩
 ·refine .inl ⟨by unfold lx; rw [if_pos e], fun j hj => ?_⟩
  have := h (n - 1 - j) (by omega)
  rwa [show n - 1 - (n - 1 - j) = j by omega] at this
 ·refine .inr ⟨n - 1 - k, by omega, ?_, h2, fun j hj hjn => ?_⟩
  ·unfold lx
   rw [if_neg (by omega), e]
   omega
  ·have := h3 (n - 1 - j) (by omega)
   rwa [show n - 1 - (n - 1 - j) = j by omega] at this
theorem sF_g {y : TS} {b : Bool} {n : Nat} (h : y.sd.size = 32) : (pX y b).sF n = 0 ↔ (y.su && (!(pX y b).ov n && decide (y.nx < y.ct))) = true := by
 rw [pX_sF h, pX_ov h]
 unfold daF
 cases dov y b n <;> cases y.su <;> by_cases c : y.ct ≤ y.nx <;> simp [c] <;> omega
theorem a_does {z c : Nat} {Z : List Blk} (h : IsJ z c Z) (hc : c < 10000) {rc ct rk lf id nw : Nat} {dd zz : Int} {fi : Bool} (hnw : nw < 18446744073709551616) (w : World) (hL : Laid w) (hT : There w Z) : Calls Tryz.prog 17 #[.pointer (some ⟨z, 0, none⟩), .agg (av 5 (ls [.int .u64 (rc : Int), .int .u64 (ct : Int), .int .u64 (rk : Int), .int .u64 (lf : Int), .int .i64 zz])), .agg (av 4 (ls [.int .i64 dd, .int .u32 (id : Int), .bool (fi), .int .u64 (nw : Int)]))] w fun r w' => ∃ Z', r = .returned (.bool true) ∧ IsJ z (c + 1) Z' ∧ OkT w w' Z Z' := by
 obtain ⟨gs, gr, SP, SQ, N, K, tp, dp, Y, gn, G, H, tv, Tt, xv, Tx, rfl, hG, hH, htv, hxv, hj⟩ := h.out
 have hlen := hj.len
 have hl3 := hj.l3
 have find : (ix (fun j => decide (sI SQ j = id)) SQ.length = -1 ∧ ∀ j, j < SP.length → ¬ sI SP j = id) ∨ ∃ i : Nat, ix (fun j => decide (sI SQ j = id)) SQ.length = (i : Int) ∧ i < SP.length ∧ sI SP i = id ∧ ∀ j, j < i → ¬ sI SP j = id := by
  rcases ix_cases (fun j => decide (sI SQ j = id)) SQ.length with ⟨hx, hn⟩ | ⟨i, hi, hx, hgi, hf⟩
  ·refine .inl ⟨hx, fun j hj' => ?_⟩
   rw [← hj.ids j hj']
   exact of_decide_eq_false (hn j (by omega))
  ·refine .inr ⟨i, hx, by omega, ?_, fun j hj' => ?_⟩
   ·rw [← hj.ids i (by omega)]
    exact of_decide_eq_true hgi
   ·rw [← hj.ids j (by omega)]
    exact of_decide_eq_false (hf j hj')
 by_cases e1 : dd = 1
 ·subst e1
  rcases find with ⟨hx, hno⟩ | ⟨i, hx, hi, hid, h0⟩
  ·exact d_1N hG hH htv hxv hj hx hno w hL hT
  ·exact d_1F hG hH htv hxv hj hc hx hi hid h0 w hL hT
 by_cases e2 : dd = 2
 ·subst e2
  rcases lx_full (fun j => (Y (K j)).su && (!(pX (Y (K j)) (gn (K j))).ov nw && decide ((Y (K j)).nx < (Y (K j)).ct))) SQ.length with ⟨hb, hn⟩ | ⟨i, hi, hb, hg, hn⟩
  ·refine d_2N hG hH htv hxv hj hnw hb (fun j hj' e => ?_) w hL hT
   have := (sF_g (hj.dk _ (hj.kP j hj').1).1.k1).1 e
   rw [hn j (by omega)] at this
   cases this
  ·refine d_2F hG hH htv hxv hj hc hnw hb (by omega) ((sF_g (hj.dk _ (hj.kP i (by omega)).1).1.k1).2 hg) (fun j h1 hj' e => ?_) w hL hT
   have := (sF_g (hj.dk _ (hj.kP j hj').1).1.k1).1 e
   rw [hn j h1 (by omega)] at this
   cases this
 by_cases e3 : dd = 3
 ·subst e3
  exact d_3 hG hH htv hxv hj hnw w hL hT
 by_cases e4 : dd = 4
 ·subst e4
  exact d_4 hG hH htv hxv hj w hL hT
 by_cases e6 : dd = 6
 ·subst e6
  rcases find with ⟨hx, hno⟩ | ⟨i, hx, hi, hid, h0⟩
  ·exact d_6N hG hH htv hxv hj hx w hL hT
  ·obtain ⟨svq, Tsq, Bq, rfl, hSq, hBq⟩ := hH.out
   have h1 := d_6F (z := z) (gr := gr) (rc := rc) (ct := ct) (rk := rk) (lf := lf) (zz := zz) (fi := fi) hG hSq hBq htv hxv hj hnw hx hi hid h0 w hL (by simpa only [List.append_assoc, List.cons_append] using hT)
   simp only [List.append_assoc, List.cons_append] at h1 ⊢
   exact h1
 have lims : (¬ (mbB rc ct rk lf = true ∧ 1 ≤ zz ∧ zz ≤ 4096)) ∨ ∃ s : Nat, (s : Int) = zz ∧ mbB rc ct rk lf = true ∧ 1 ≤ s ∧ s ≤ 4096 := by
  by_cases hl : mbB rc ct rk lf = true ∧ 1 ≤ zz ∧ zz ≤ 4096
  ·exact .inr ⟨zz.toNat, by omega, hl.1, by omega, by omega⟩
  ·exact .inl hl
 by_cases e5 : dd = 5
 ·subst e5
  rcases find with ⟨hx, hno⟩ | ⟨i, hx, hi, hid, h0⟩
  ·exact d_5N hG hH htv hxv hj hx w hL hT
  ·obtain ⟨svq, Tsq, Bq, rfl, hSq, hBq⟩ := hH.out
   simp only [List.append_assoc, List.cons_append]
   rcases lims with hlim | ⟨s, hzs, hmb, hs, hs4⟩
   ·have h1 := d_5B (z := z) (gr := gr) (nw := nw) (fi := fi) hG hSq hBq htv hxv hj hx hi hlim w hL (by simpa only [List.append_assoc, List.cons_append] using hT)
    simp only [List.cons_append] at h1
    exact h1
   ·have h1 := d_5F (z := z) (gr := gr) (fi := fi) hG hSq hBq htv hxv hj hnw hzs hmb hs hs4 hc hx hi hid h0 w hL (by simpa only [List.append_assoc, List.cons_append] using hT)
    simp only [List.cons_append] at h1
    exact h1
 have hdd : dd < 1 ∨ 6 < dd := by clear lims find; omega
 rcases lims with hlim | ⟨s, hzs, hmb, hs, hs4⟩
 ·exact d_0B hG hH htv hxv hj hdd hlim w hL hT
 ·rcases find with ⟨hx, hno⟩ | ⟨i, hx, hi, hid, h0⟩
  ·by_cases h3 : SP.length < 3
   ·exact d_0P hG hH htv hxv hj hdd hzs hmb hs hs4 hc hno h3 w hL hT
   ·exact d_0Q hG hH htv hxv hj hdd hzs hmb hs hs4 hc hno (by omega) w hL hT
  ·exact d_0A hG hH htv hxv hj hdd hzs hmb hs hs4 hc hi hid h0 w hL hT
end Go.Proofs.YtenafinbaanicaaGreatDoor
