/- Part 5 of the walks and facts behind edwReckons_holds. -/
import Derived.Test.YtkeocdebfgcnnaaGreatCk4
import Derived.Shelf.Strings.Repeat
import Derived.Test.YtkeocdebfgcnnaaGreatProg
/- The walks of the points, told by what their callees hand back. -/
namespace Go.Proofs.YtkeocdebfgcnnaaGreat
open Go.RowKit

structure noneF (px py pz pt : Nat → Int) (b1 : Bool) : Prop where
  h1 : ∀ w, Calls Tryz.prog 60 #[.agg (arr 5 pz), .agg (arr 5 (fun _ => 0))] w fun r w' => r = .returned (.bool b1) ∧ Below w.heap.size w w'

set_option maxRecDepth 100000 in
set_option maxHeartbeats 4000000 in
theorem none_gen (px py pz pt : Nat → Int) (b1 : Bool) (w : World) (F : noneF px py pz pt b1)  :
    Calls Tryz.prog 52 #[.agg (arr 20 (p4 5 px py pz pt))] w fun r w' => r = .returned (.bool b1) ∧ Below w.heap.size w w' := by
  go_enter Tryz.func52, Tryz.ntmps52
  have M := Mem.start w
  refine sr ?_
  refine pl_new M (want_no rfl) (some 1) rfl (.cells (arr 20 (p4 5 px py pz pt)) 27) (fun _ => by kernel_rfl) ?_
  intro g1 w1 M
  replace M : Mem w [⟨g1, .cells (arr 20 (p4 5 px py pz pt)) 27⟩] w1 := M
  refine pv 2 (.bool false) ?_
  refine nt ?_
  refine sr ?_
  refine pv 3 (.pointer (some ⟨g1, 10, none⟩)) ?_
  refine pl_load M (want_no rfl) (some 4) rfl 25 _ rfl 0 g1 10 (by kernel_rfl) 20 27 (p4 5 px py pz pt) rfl 5 pz (p4_2 5 px py pz pt 10 rfl) (by decide) _ Tryz.underlying25 rfl inz25 ?_
  refine pv 5 (.agg (arr 5 (fun _ => 0))) ?_
  refine pl_call M (want_no rfl) (some 6) rfl 60 #[.agg (arr 5 pz), .agg (arr 5 (fun _ => 0))] (.bool b1) (fun _ => by kernel_rfl) F.h1 ?_
  intro w2 M
  refine pv 2 (.bool b1) ?_
  refine nt ?_
  refine wp_ret ?_
  exact bodyPost_ret (v := .bool b1) (results_tmp1 Tryz.results52 _ _ _ (by kernel_rfl)) (by kernel_rfl) ⟨rfl, M.old⟩

structure pointOfF (x y r1 r2 : Nat → Int) : Prop where
  h1 : ∀ w, Calls Tryz.prog 61 #[.int .u32 1] w fun r w' => r = .returned (.agg (arr 5 r1)) ∧ Below w.heap.size w w'
  h2 : ∀ w, Calls Tryz.prog 59 #[.agg (arr 5 x), .agg (arr 5 y)] w fun r w' => r = .returned (.agg (arr 5 r2)) ∧ Below w.heap.size w w'

set_option maxRecDepth 100000 in
set_option maxHeartbeats 4000000 in
theorem pointOf_gen (x y r1 r2 : Nat → Int) (w : World) (F : pointOfF x y r1 r2)  :
    Calls Tryz.prog 30 #[.agg (arr 5 x), .agg (arr 5 y)] w fun r w' => r = .returned (.agg (arr 20 (p4 5 x y r1 r2))) ∧ Below w.heap.size w w' := by
  go_enter Tryz.func30, Tryz.ntmps30
  have M := Mem.start w
  refine sr ?_
  refine pl_new M (want_no rfl) (some 2) rfl (.cells (arr 5 x) 25) (fun _ => by kernel_rfl) ?_
  intro g1 w1 M
  replace M : Mem w [⟨g1, .cells (arr 5 x) 25⟩] w1 := M
  refine pl_new M (want_no rfl) (some 3) rfl (.cells (arr 5 y) 25) (fun _ => by kernel_rfl) ?_
  intro g2 w2 M
  replace M : Mem w [⟨g1, .cells (arr 5 x) 25⟩, ⟨g2, .cells (arr 5 y) 25⟩] w2 := M
  refine pl_new M (want_no rfl) (some 4) rfl (.cells (arr 20 (fun _ => 0)) 27) (fun _ => by kernel_rfl) ?_
  intro g3 w3 M
  replace M : Mem w [⟨g1, .cells (arr 5 x) 25⟩, ⟨g2, .cells (arr 5 y) 25⟩, ⟨g3, .cells (arr 20 (fun _ => 0)) 27⟩] w3 := M
  refine nt ?_
  refine wp_seq ?_
  refine rg_tail M 7 (by kernel_rfl) (by kernel_rfl) ?_
  simp only [List.take_succ_cons, List.take_zero]
  refine k_load M (want_no rfl) (some 5) rfl 25 _ rfl 0 g1 0 (by kernel_rfl) 5 25 x rfl 5 x (Part.all _ _) (by decide) _ Tryz.underlying25 rfl inz25 ?_
  refine k_load M (want_no rfl) (some 6) rfl 25 _ rfl 1 g2 0 (by kernel_rfl) 5 25 y rfl 5 y (Part.all _ _) (by decide) _ Tryz.underlying25 rfl inz25 ?_
  refine k_call (want_no rfl) (some 7) rfl 61 #[.int .u32 1] (.agg (arr 5 r1)) (fun _ => by kernel_rfl) F.h1 ?_
  refine k_load M (want_no rfl) (some 8) rfl 25 _ rfl 0 g1 0 (by kernel_rfl) 5 25 x rfl 5 x (Part.all _ _) (by decide) _ Tryz.underlying25 rfl inz25 ?_
  refine k_load M (want_no rfl) (some 9) rfl 25 _ rfl 1 g2 0 (by kernel_rfl) 5 25 y rfl 5 y (Part.all _ _) (by decide) _ Tryz.underlying25 rfl inz25 ?_
  refine k_call (want_no rfl) (some 10) rfl 59 #[.agg (arr 5 x), .agg (arr 5 y)] (.agg (arr 5 r2)) (fun _ => by kernel_rfl) F.h2 ?_
  refine kv 11 (.agg (arr 20 (p4 5 x y r1 r2))) ?_
  refine kl_nil ?_
  intro w4 M
  replace M : Mem w [⟨g1, .cells (arr 5 x) 25⟩, ⟨g2, .cells (arr 5 y) 25⟩, ⟨g3, .cells (arr 20 (fun _ => 0)) 27⟩] w4 := M
  refine pl_put M (want_no rfl) rfl 27 _ _ rfl 2 g3 (by kernel_rfl) 20 27 (fun _ => 0) (p4 5 x y r1 r2) rfl (by kernel_rfl) inz27 ?_
  intro w5 M
  replace M : Mem w [⟨g1, .cells (arr 5 x) 25⟩, ⟨g2, .cells (arr 5 y) 25⟩, ⟨g3, .cells (arr 20 (p4 5 x y r1 r2)) 27⟩] w5 := M
  refine nt ?_
  refine wp_ret ?_
  exact bodyPost_ret (v := .agg (arr 20 (p4 5 x y r1 r2))) (results_cell_row Tryz.results30 _ _ g3 27 (arr 20 (p4 5 x y r1 r2)) (0, 0) _ (by kernel_rfl) (M.get 2 rfl) Tryz.underlying27 rfl (by rw [arr_size]; exact inz27)) (by kernel_rfl) ⟨rfl, M.old⟩

structure zeroF (r1 r2 : Nat → Int) : Prop where
  h1 : ∀ w, Calls Tryz.prog 61 #[.int .u32 1] w fun r w' => r = .returned (.agg (arr 5 r1)) ∧ Below w.heap.size w w'
  h2 : ∀ w, Calls Tryz.prog 30 #[.agg (arr 5 (fun _ => 0)), .agg (arr 5 r1)] w fun r w' => r = .returned (.agg (arr 20 r2)) ∧ Below w.heap.size w w'

set_option maxRecDepth 100000 in
set_option maxHeartbeats 4000000 in
theorem zero_gen (r1 r2 : Nat → Int) (w : World) (F : zeroF r1 r2)  :
    Calls Tryz.prog 19 #[] w fun r w' => r = .returned (.agg (arr 20 r2)) ∧ Below w.heap.size w w' := by
  go_enter Tryz.func19, Tryz.ntmps19
  have M := Mem.start w
  refine sr ?_
  refine pl_new M (want_no rfl) (some 0) rfl (.cells (arr 20 (fun _ => 0)) 27) (fun _ => by kernel_rfl) ?_
  intro g1 w1 M
  replace M : Mem w [⟨g1, .cells (arr 20 (fun _ => 0)) 27⟩] w1 := M
  refine nt ?_
  refine sr ?_
  refine pv 1 (.agg (arr 5 (fun _ => 0))) ?_
  refine pl_call M (want_no rfl) (some 2) rfl 61 #[.int .u32 1] (.agg (arr 5 r1)) (fun _ => by kernel_rfl) F.h1 ?_
  intro w2 M
  refine pl_call M (want_no rfl) (some 3) rfl 30 #[.agg (arr 5 (fun _ => 0)), .agg (arr 5 r1)] (.agg (arr 20 r2)) (fun _ => by kernel_rfl) F.h2 ?_
  intro w3 M
  refine pl_put M (want_no rfl) rfl 27 _ _ rfl 0 g1 (by kernel_rfl) 20 27 (fun _ => 0) r2 rfl (by kernel_rfl) inz27 ?_
  intro w4 M
  replace M : Mem w [⟨g1, .cells (arr 20 r2) 27⟩] w4 := M
  refine nt ?_
  refine wp_ret ?_
  exact bodyPost_ret (v := .agg (arr 20 r2)) (results_cell_row Tryz.results19 _ _ g1 27 (arr 20 r2) (0, 0) _ (by kernel_rfl) (M.get 0 rfl) Tryz.underlying27 rfl (by rw [arr_size]; exact inz27)) (by kernel_rfl) ⟨rfl, M.old⟩

structure plusF (px py pz pt qx qy qz qt r1 r2 r3 r4 r5 r6 r7 r8 r9 r10 r11 r12 r13 r14 r15 r16 r17 r18 r19 r20 : Nat → Int) : Prop where
  h1 : ∀ w, Calls Tryz.prog 70 #[.agg (arr 5 py), .agg (arr 5 px)] w fun r w' => r = .returned (.agg (arr 5 r1)) ∧ Below w.heap.size w w'
  h2 : ∀ w, Calls Tryz.prog 70 #[.agg (arr 5 qy), .agg (arr 5 qx)] w fun r w' => r = .returned (.agg (arr 5 r2)) ∧ Below w.heap.size w w'
  h3 : ∀ w, Calls Tryz.prog 59 #[.agg (arr 5 r1), .agg (arr 5 r2)] w fun r w' => r = .returned (.agg (arr 5 r3)) ∧ Below w.heap.size w w'
  h4 : ∀ w, Calls Tryz.prog 72 #[.agg (arr 5 py), .agg (arr 5 px)] w fun r w' => r = .returned (.agg (arr 5 r4)) ∧ Below w.heap.size w w'
  h5 : ∀ w, Calls Tryz.prog 72 #[.agg (arr 5 qy), .agg (arr 5 qx)] w fun r w' => r = .returned (.agg (arr 5 r5)) ∧ Below w.heap.size w w'
  h6 : ∀ w, Calls Tryz.prog 59 #[.agg (arr 5 r4), .agg (arr 5 r5)] w fun r w' => r = .returned (.agg (arr 5 r6)) ∧ Below w.heap.size w w'
  h7 : ∀ w, Calls Tryz.prog 71 #[] w fun r w' => r = .returned (.agg (arr 5 r7)) ∧ Below w.heap.size w w'
  h8 : ∀ w, Calls Tryz.prog 59 #[.agg (arr 5 r7), .agg (arr 5 pt)] w fun r w' => r = .returned (.agg (arr 5 r8)) ∧ Below w.heap.size w w'
  h9 : ∀ w, Calls Tryz.prog 72 #[.agg (arr 5 qt), .agg (arr 5 qt)] w fun r w' => r = .returned (.agg (arr 5 r9)) ∧ Below w.heap.size w w'
  h10 : ∀ w, Calls Tryz.prog 59 #[.agg (arr 5 r8), .agg (arr 5 r9)] w fun r w' => r = .returned (.agg (arr 5 r10)) ∧ Below w.heap.size w w'
  h11 : ∀ w, Calls Tryz.prog 72 #[.agg (arr 5 qz), .agg (arr 5 qz)] w fun r w' => r = .returned (.agg (arr 5 r11)) ∧ Below w.heap.size w w'
  h12 : ∀ w, Calls Tryz.prog 59 #[.agg (arr 5 pz), .agg (arr 5 r11)] w fun r w' => r = .returned (.agg (arr 5 r12)) ∧ Below w.heap.size w w'
  h13 : ∀ w, Calls Tryz.prog 70 #[.agg (arr 5 r6), .agg (arr 5 r3)] w fun r w' => r = .returned (.agg (arr 5 r13)) ∧ Below w.heap.size w w'
  h14 : ∀ w, Calls Tryz.prog 70 #[.agg (arr 5 r12), .agg (arr 5 r10)] w fun r w' => r = .returned (.agg (arr 5 r14)) ∧ Below w.heap.size w w'
  h15 : ∀ w, Calls Tryz.prog 72 #[.agg (arr 5 r12), .agg (arr 5 r10)] w fun r w' => r = .returned (.agg (arr 5 r15)) ∧ Below w.heap.size w w'
  h16 : ∀ w, Calls Tryz.prog 72 #[.agg (arr 5 r6), .agg (arr 5 r3)] w fun r w' => r = .returned (.agg (arr 5 r16)) ∧ Below w.heap.size w w'
  h17 : ∀ w, Calls Tryz.prog 59 #[.agg (arr 5 r13), .agg (arr 5 r14)] w fun r w' => r = .returned (.agg (arr 5 r17)) ∧ Below w.heap.size w w'
  h18 : ∀ w, Calls Tryz.prog 59 #[.agg (arr 5 r15), .agg (arr 5 r16)] w fun r w' => r = .returned (.agg (arr 5 r18)) ∧ Below w.heap.size w w'
  h19 : ∀ w, Calls Tryz.prog 59 #[.agg (arr 5 r14), .agg (arr 5 r15)] w fun r w' => r = .returned (.agg (arr 5 r19)) ∧ Below w.heap.size w w'
  h20 : ∀ w, Calls Tryz.prog 59 #[.agg (arr 5 r13), .agg (arr 5 r16)] w fun r w' => r = .returned (.agg (arr 5 r20)) ∧ Below w.heap.size w w'

set_option maxRecDepth 100000 in
set_option maxHeartbeats 4000000 in
theorem plus_gen (px py pz pt qx qy qz qt r1 r2 r3 r4 r5 r6 r7 r8 r9 r10 r11 r12 r13 r14 r15 r16 r17 r18 r19 r20 : Nat → Int) (w : World) (F : plusF px py pz pt qx qy qz qt r1 r2 r3 r4 r5 r6 r7 r8 r9 r10 r11 r12 r13 r14 r15 r16 r17 r18 r19 r20)  :
    Calls Tryz.prog 53 #[.agg (arr 20 (p4 5 px py pz pt)), .agg (arr 20 (p4 5 qx qy qz qt))] w fun r w' => r = .returned (.agg (arr 20 (p4 5 r17 r18 r19 r20))) ∧ Below w.heap.size w w' := by
  go_enter Tryz.func53, Tryz.ntmps53
  have M := Mem.start w
  refine sr ?_
  refine pl_new M (want_no rfl) (some 2) rfl (.cells (arr 20 (p4 5 px py pz pt)) 27) (fun _ => by kernel_rfl) ?_
  intro g1 w1 M
  replace M : Mem w [⟨g1, .cells (arr 20 (p4 5 px py pz pt)) 27⟩] w1 := M
  refine pl_new M (want_no rfl) (some 3) rfl (.cells (arr 20 (p4 5 qx qy qz qt)) 27) (fun _ => by kernel_rfl) ?_
  intro g2 w2 M
  replace M : Mem w [⟨g1, .cells (arr 20 (p4 5 px py pz pt)) 27⟩, ⟨g2, .cells (arr 20 (p4 5 qx qy qz qt)) 27⟩] w2 := M
  refine pl_new M (want_no rfl) (some 4) rfl (.cells (arr 20 (fun _ => 0)) 27) (fun _ => by kernel_rfl) ?_
  intro g3 w3 M
  replace M : Mem w [⟨g1, .cells (arr 20 (p4 5 px py pz pt)) 27⟩, ⟨g2, .cells (arr 20 (p4 5 qx qy qz qt)) 27⟩, ⟨g3, .cells (arr 20 (fun _ => 0)) 27⟩] w3 := M
  refine nt ?_
  refine wp_seq ?_
  refine rg_allocs M 11 [(5, 25, 5)] (by kernel_rfl) (by kernel_rfl) ⟨rfl, rfl, fun _ _ => by kernel_rfl, trivial⟩ (by decide) ?_
  simp only [List.take_succ_cons, List.take_zero]
  refine kv 13 (.pointer (some ⟨g1, 5, none⟩)) ?_
  refine k_load M (want_no rfl) (some 14) rfl 25 _ rfl 0 g1 5 (by kernel_rfl) 20 27 (p4 5 px py pz pt) rfl 5 py (p4_1 5 px py pz pt 5 rfl) (by decide) _ Tryz.underlying25 rfl inz25 ?_
  refine kv 15 (.pointer (some ⟨g1, 0, none⟩)) ?_
  refine k_load M (want_no rfl) (some 16) rfl 25 _ rfl 0 g1 0 (by kernel_rfl) 20 27 (p4 5 px py pz pt) rfl 5 px (p4_0 5 px py pz pt 0 rfl) (by decide) _ Tryz.underlying25 rfl inz25 ?_
  refine k_call (want_no rfl) (some 17) rfl 70 #[.agg (arr 5 py), .agg (arr 5 px)] (.agg (arr 5 r1)) (fun _ => by kernel_rfl) F.h1 ?_
  refine kv 18 (.pointer (some ⟨g2, 5, none⟩)) ?_
  refine k_load M (want_no rfl) (some 19) rfl 25 _ rfl 1 g2 5 (by kernel_rfl) 20 27 (p4 5 qx qy qz qt) rfl 5 qy (p4_1 5 qx qy qz qt 5 rfl) (by decide) _ Tryz.underlying25 rfl inz25 ?_
  refine kv 20 (.pointer (some ⟨g2, 0, none⟩)) ?_
  refine k_load M (want_no rfl) (some 21) rfl 25 _ rfl 1 g2 0 (by kernel_rfl) 20 27 (p4 5 qx qy qz qt) rfl 5 qx (p4_0 5 qx qy qz qt 0 rfl) (by decide) _ Tryz.underlying25 rfl inz25 ?_
  refine k_call (want_no rfl) (some 22) rfl 70 #[.agg (arr 5 qy), .agg (arr 5 qx)] (.agg (arr 5 r2)) (fun _ => by kernel_rfl) F.h2 ?_
  refine k_call (want_no rfl) (some 23) rfl 59 #[.agg (arr 5 r1), .agg (arr 5 r2)] (.agg (arr 5 r3)) (fun _ => by kernel_rfl) F.h3 ?_
  refine kl_nil ?_
  intro w4 g4 M
  replace M : Mem w [⟨g1, .cells (arr 20 (p4 5 px py pz pt)) 27⟩, ⟨g2, .cells (arr 20 (p4 5 qx qy qz qt)) 27⟩, ⟨g3, .cells (arr 20 (fun _ => 0)) 27⟩, ⟨g4, .cells (arr 5 (fun _ => 0)) 25⟩] w4 := M
  refine pl_put M (want_no rfl) rfl 25 _ _ rfl 3 g4 (by kernel_rfl) 5 25 (fun _ => 0) r3 rfl (by kernel_rfl) inz25 ?_
  intro w5 M
  replace M : Mem w [⟨g1, .cells (arr 20 (p4 5 px py pz pt)) 27⟩, ⟨g2, .cells (arr 20 (p4 5 qx qy qz qt)) 27⟩, ⟨g3, .cells (arr 20 (fun _ => 0)) 27⟩, ⟨g4, .cells (arr 5 r3) 25⟩] w5 := M
  refine nt ?_
  refine wp_seq ?_
  refine rg_allocs M 11 [(6, 25, 5)] (by kernel_rfl) (by kernel_rfl) ⟨rfl, rfl, fun _ _ => by kernel_rfl, trivial⟩ (by decide) ?_
  simp only [List.take_succ_cons, List.take_zero]
  refine kv 24 (.pointer (some ⟨g1, 5, none⟩)) ?_
  refine k_load M (want_no rfl) (some 25) rfl 25 _ rfl 0 g1 5 (by kernel_rfl) 20 27 (p4 5 px py pz pt) rfl 5 py (p4_1 5 px py pz pt 5 rfl) (by decide) _ Tryz.underlying25 rfl inz25 ?_
  refine kv 26 (.pointer (some ⟨g1, 0, none⟩)) ?_
  refine k_load M (want_no rfl) (some 27) rfl 25 _ rfl 0 g1 0 (by kernel_rfl) 20 27 (p4 5 px py pz pt) rfl 5 px (p4_0 5 px py pz pt 0 rfl) (by decide) _ Tryz.underlying25 rfl inz25 ?_
  refine k_call (want_no rfl) (some 28) rfl 72 #[.agg (arr 5 py), .agg (arr 5 px)] (.agg (arr 5 r4)) (fun _ => by kernel_rfl) F.h4 ?_
  refine kv 29 (.pointer (some ⟨g2, 5, none⟩)) ?_
  refine k_load M (want_no rfl) (some 30) rfl 25 _ rfl 1 g2 5 (by kernel_rfl) 20 27 (p4 5 qx qy qz qt) rfl 5 qy (p4_1 5 qx qy qz qt 5 rfl) (by decide) _ Tryz.underlying25 rfl inz25 ?_
  refine kv 31 (.pointer (some ⟨g2, 0, none⟩)) ?_
  refine k_load M (want_no rfl) (some 32) rfl 25 _ rfl 1 g2 0 (by kernel_rfl) 20 27 (p4 5 qx qy qz qt) rfl 5 qx (p4_0 5 qx qy qz qt 0 rfl) (by decide) _ Tryz.underlying25 rfl inz25 ?_
  refine k_call (want_no rfl) (some 33) rfl 72 #[.agg (arr 5 qy), .agg (arr 5 qx)] (.agg (arr 5 r5)) (fun _ => by kernel_rfl) F.h5 ?_
  refine k_call (want_no rfl) (some 34) rfl 59 #[.agg (arr 5 r4), .agg (arr 5 r5)] (.agg (arr 5 r6)) (fun _ => by kernel_rfl) F.h6 ?_
  refine kl_nil ?_
  intro w6 g5 M
  replace M : Mem w [⟨g1, .cells (arr 20 (p4 5 px py pz pt)) 27⟩, ⟨g2, .cells (arr 20 (p4 5 qx qy qz qt)) 27⟩, ⟨g3, .cells (arr 20 (fun _ => 0)) 27⟩, ⟨g4, .cells (arr 5 r3) 25⟩, ⟨g5, .cells (arr 5 (fun _ => 0)) 25⟩] w6 := M
  refine pl_put M (want_no rfl) rfl 25 _ _ rfl 4 g5 (by kernel_rfl) 5 25 (fun _ => 0) r6 rfl (by kernel_rfl) inz25 ?_
  intro w7 M
  replace M : Mem w [⟨g1, .cells (arr 20 (p4 5 px py pz pt)) 27⟩, ⟨g2, .cells (arr 20 (p4 5 qx qy qz qt)) 27⟩, ⟨g3, .cells (arr 20 (fun _ => 0)) 27⟩, ⟨g4, .cells (arr 5 r3) 25⟩, ⟨g5, .cells (arr 5 r6) 25⟩] w7 := M
  refine nt ?_
  refine wp_seq ?_
  refine rg_allocs M 10 [(7, 25, 5)] (by kernel_rfl) (by kernel_rfl) ⟨rfl, rfl, fun _ _ => by kernel_rfl, trivial⟩ (by decide) ?_
  simp only [List.take_succ_cons, List.take_zero]
  refine k_call (want_no rfl) (some 35) rfl 71 #[] (.agg (arr 5 r7)) (fun _ => by kernel_rfl) F.h7 ?_
  refine kv 36 (.pointer (some ⟨g1, 15, none⟩)) ?_
  refine k_load M (want_no rfl) (some 37) rfl 25 _ rfl 0 g1 15 (by kernel_rfl) 20 27 (p4 5 px py pz pt) rfl 5 pt (p4_3 5 px py pz pt 15 rfl) (by decide) _ Tryz.underlying25 rfl inz25 ?_
  refine k_call (want_no rfl) (some 38) rfl 59 #[.agg (arr 5 r7), .agg (arr 5 pt)] (.agg (arr 5 r8)) (fun _ => by kernel_rfl) F.h8 ?_
  refine kv 39 (.pointer (some ⟨g2, 15, none⟩)) ?_
  refine k_load M (want_no rfl) (some 40) rfl 25 _ rfl 1 g2 15 (by kernel_rfl) 20 27 (p4 5 qx qy qz qt) rfl 5 qt (p4_3 5 qx qy qz qt 15 rfl) (by decide) _ Tryz.underlying25 rfl inz25 ?_
  refine kv 41 (.pointer (some ⟨g2, 15, none⟩)) ?_
  refine k_load M (want_no rfl) (some 42) rfl 25 _ rfl 1 g2 15 (by kernel_rfl) 20 27 (p4 5 qx qy qz qt) rfl 5 qt (p4_3 5 qx qy qz qt 15 rfl) (by decide) _ Tryz.underlying25 rfl inz25 ?_
  refine k_call (want_no rfl) (some 43) rfl 72 #[.agg (arr 5 qt), .agg (arr 5 qt)] (.agg (arr 5 r9)) (fun _ => by kernel_rfl) F.h9 ?_
  refine k_call (want_no rfl) (some 44) rfl 59 #[.agg (arr 5 r8), .agg (arr 5 r9)] (.agg (arr 5 r10)) (fun _ => by kernel_rfl) F.h10 ?_
  refine kl_nil ?_
  intro w8 g6 M
  replace M : Mem w [⟨g1, .cells (arr 20 (p4 5 px py pz pt)) 27⟩, ⟨g2, .cells (arr 20 (p4 5 qx qy qz qt)) 27⟩, ⟨g3, .cells (arr 20 (fun _ => 0)) 27⟩, ⟨g4, .cells (arr 5 r3) 25⟩, ⟨g5, .cells (arr 5 r6) 25⟩, ⟨g6, .cells (arr 5 (fun _ => 0)) 25⟩] w8 := M
  refine pl_put M (want_no rfl) rfl 25 _ _ rfl 5 g6 (by kernel_rfl) 5 25 (fun _ => 0) r10 rfl (by kernel_rfl) inz25 ?_
  intro w9 M
  replace M : Mem w [⟨g1, .cells (arr 20 (p4 5 px py pz pt)) 27⟩, ⟨g2, .cells (arr 20 (p4 5 qx qy qz qt)) 27⟩, ⟨g3, .cells (arr 20 (fun _ => 0)) 27⟩, ⟨g4, .cells (arr 5 r3) 25⟩, ⟨g5, .cells (arr 5 r6) 25⟩, ⟨g6, .cells (arr 5 r10) 25⟩] w9 := M
  refine nt ?_
  refine wp_seq ?_
  refine rg_allocs M 8 [(8, 25, 5)] (by kernel_rfl) (by kernel_rfl) ⟨rfl, rfl, fun _ _ => by kernel_rfl, trivial⟩ (by decide) ?_
  simp only [List.take_succ_cons, List.take_zero]
  refine kv 45 (.pointer (some ⟨g1, 10, none⟩)) ?_
  refine k_load M (want_no rfl) (some 46) rfl 25 _ rfl 0 g1 10 (by kernel_rfl) 20 27 (p4 5 px py pz pt) rfl 5 pz (p4_2 5 px py pz pt 10 rfl) (by decide) _ Tryz.underlying25 rfl inz25 ?_
  refine kv 47 (.pointer (some ⟨g2, 10, none⟩)) ?_
  refine k_load M (want_no rfl) (some 48) rfl 25 _ rfl 1 g2 10 (by kernel_rfl) 20 27 (p4 5 qx qy qz qt) rfl 5 qz (p4_2 5 qx qy qz qt 10 rfl) (by decide) _ Tryz.underlying25 rfl inz25 ?_
  refine kv 49 (.pointer (some ⟨g2, 10, none⟩)) ?_
  refine k_load M (want_no rfl) (some 50) rfl 25 _ rfl 1 g2 10 (by kernel_rfl) 20 27 (p4 5 qx qy qz qt) rfl 5 qz (p4_2 5 qx qy qz qt 10 rfl) (by decide) _ Tryz.underlying25 rfl inz25 ?_
  refine k_call (want_no rfl) (some 51) rfl 72 #[.agg (arr 5 qz), .agg (arr 5 qz)] (.agg (arr 5 r11)) (fun _ => by kernel_rfl) F.h11 ?_
  refine k_call (want_no rfl) (some 52) rfl 59 #[.agg (arr 5 pz), .agg (arr 5 r11)] (.agg (arr 5 r12)) (fun _ => by kernel_rfl) F.h12 ?_
  refine kl_nil ?_
  intro w10 g7 M
  replace M : Mem w [⟨g1, .cells (arr 20 (p4 5 px py pz pt)) 27⟩, ⟨g2, .cells (arr 20 (p4 5 qx qy qz qt)) 27⟩, ⟨g3, .cells (arr 20 (fun _ => 0)) 27⟩, ⟨g4, .cells (arr 5 r3) 25⟩, ⟨g5, .cells (arr 5 r6) 25⟩, ⟨g6, .cells (arr 5 r10) 25⟩, ⟨g7, .cells (arr 5 (fun _ => 0)) 25⟩] w10 := M
  refine pl_put M (want_no rfl) rfl 25 _ _ rfl 6 g7 (by kernel_rfl) 5 25 (fun _ => 0) r12 rfl (by kernel_rfl) inz25 ?_
  intro w11 M
  replace M : Mem w [⟨g1, .cells (arr 20 (p4 5 px py pz pt)) 27⟩, ⟨g2, .cells (arr 20 (p4 5 qx qy qz qt)) 27⟩, ⟨g3, .cells (arr 20 (fun _ => 0)) 27⟩, ⟨g4, .cells (arr 5 r3) 25⟩, ⟨g5, .cells (arr 5 r6) 25⟩, ⟨g6, .cells (arr 5 r10) 25⟩, ⟨g7, .cells (arr 5 r12) 25⟩] w11 := M
  refine nt ?_
  refine wp_seq ?_
  refine rg_allocs M 12 [(9, 25, 5), (10, 25, 5), (11, 25, 5), (12, 25, 5)] (by kernel_rfl) (by kernel_rfl) ⟨rfl, rfl, fun _ _ => by kernel_rfl, rfl, rfl, fun _ _ => by kernel_rfl, rfl, rfl, fun _ _ => by kernel_rfl, rfl, rfl, fun _ _ => by kernel_rfl, trivial⟩ (by decide) ?_
  simp only [List.take_succ_cons, List.take_zero]
  refine k_load M (want_no rfl) (some 53) rfl 25 _ rfl 4 g5 0 (by kernel_rfl) 5 25 r6 rfl 5 r6 (Part.all _ _) (by decide) _ Tryz.underlying25 rfl inz25 ?_
  refine k_load M (want_no rfl) (some 54) rfl 25 _ rfl 3 g4 0 (by kernel_rfl) 5 25 r3 rfl 5 r3 (Part.all _ _) (by decide) _ Tryz.underlying25 rfl inz25 ?_
  refine k_call (want_no rfl) (some 55) rfl 70 #[.agg (arr 5 r6), .agg (arr 5 r3)] (.agg (arr 5 r13)) (fun _ => by kernel_rfl) F.h13 ?_
  refine k_load M (want_no rfl) (some 56) rfl 25 _ rfl 6 g7 0 (by kernel_rfl) 5 25 r12 rfl 5 r12 (Part.all _ _) (by decide) _ Tryz.underlying25 rfl inz25 ?_
  refine k_load M (want_no rfl) (some 57) rfl 25 _ rfl 5 g6 0 (by kernel_rfl) 5 25 r10 rfl 5 r10 (Part.all _ _) (by decide) _ Tryz.underlying25 rfl inz25 ?_
  refine k_call (want_no rfl) (some 58) rfl 70 #[.agg (arr 5 r12), .agg (arr 5 r10)] (.agg (arr 5 r14)) (fun _ => by kernel_rfl) F.h14 ?_
  refine k_load M (want_no rfl) (some 59) rfl 25 _ rfl 6 g7 0 (by kernel_rfl) 5 25 r12 rfl 5 r12 (Part.all _ _) (by decide) _ Tryz.underlying25 rfl inz25 ?_
  refine k_load M (want_no rfl) (some 60) rfl 25 _ rfl 5 g6 0 (by kernel_rfl) 5 25 r10 rfl 5 r10 (Part.all _ _) (by decide) _ Tryz.underlying25 rfl inz25 ?_
  refine k_call (want_no rfl) (some 61) rfl 72 #[.agg (arr 5 r12), .agg (arr 5 r10)] (.agg (arr 5 r15)) (fun _ => by kernel_rfl) F.h15 ?_
  refine k_load M (want_no rfl) (some 62) rfl 25 _ rfl 4 g5 0 (by kernel_rfl) 5 25 r6 rfl 5 r6 (Part.all _ _) (by decide) _ Tryz.underlying25 rfl inz25 ?_
  refine k_load M (want_no rfl) (some 63) rfl 25 _ rfl 3 g4 0 (by kernel_rfl) 5 25 r3 rfl 5 r3 (Part.all _ _) (by decide) _ Tryz.underlying25 rfl inz25 ?_
  refine k_call (want_no rfl) (some 64) rfl 72 #[.agg (arr 5 r6), .agg (arr 5 r3)] (.agg (arr 5 r16)) (fun _ => by kernel_rfl) F.h16 ?_
  refine kl_nil ?_
  intro w12 g8 g9 g10 g11 M
  replace M : Mem w [⟨g1, .cells (arr 20 (p4 5 px py pz pt)) 27⟩, ⟨g2, .cells (arr 20 (p4 5 qx qy qz qt)) 27⟩, ⟨g3, .cells (arr 20 (fun _ => 0)) 27⟩, ⟨g4, .cells (arr 5 r3) 25⟩, ⟨g5, .cells (arr 5 r6) 25⟩, ⟨g6, .cells (arr 5 r10) 25⟩, ⟨g7, .cells (arr 5 r12) 25⟩, ⟨g8, .cells (arr 5 (fun _ => 0)) 25⟩, ⟨g9, .cells (arr 5 (fun _ => 0)) 25⟩, ⟨g10, .cells (arr 5 (fun _ => 0)) 25⟩, ⟨g11, .cells (arr 5 (fun _ => 0)) 25⟩] w12 := M
  refine pl_put M (want_no rfl) rfl 25 _ _ rfl 7 g8 (by kernel_rfl) 5 25 (fun _ => 0) r13 rfl (by kernel_rfl) inz25 ?_
  intro w13 M
  replace M : Mem w [⟨g1, .cells (arr 20 (p4 5 px py pz pt)) 27⟩, ⟨g2, .cells (arr 20 (p4 5 qx qy qz qt)) 27⟩, ⟨g3, .cells (arr 20 (fun _ => 0)) 27⟩, ⟨g4, .cells (arr 5 r3) 25⟩, ⟨g5, .cells (arr 5 r6) 25⟩, ⟨g6, .cells (arr 5 r10) 25⟩, ⟨g7, .cells (arr 5 r12) 25⟩, ⟨g8, .cells (arr 5 r13) 25⟩, ⟨g9, .cells (arr 5 (fun _ => 0)) 25⟩, ⟨g10, .cells (arr 5 (fun _ => 0)) 25⟩, ⟨g11, .cells (arr 5 (fun _ => 0)) 25⟩] w13 := M
  refine pl_put M (want_no rfl) rfl 25 _ _ rfl 8 g9 (by kernel_rfl) 5 25 (fun _ => 0) r14 rfl (by kernel_rfl) inz25 ?_
  intro w14 M
  replace M : Mem w [⟨g1, .cells (arr 20 (p4 5 px py pz pt)) 27⟩, ⟨g2, .cells (arr 20 (p4 5 qx qy qz qt)) 27⟩, ⟨g3, .cells (arr 20 (fun _ => 0)) 27⟩, ⟨g4, .cells (arr 5 r3) 25⟩, ⟨g5, .cells (arr 5 r6) 25⟩, ⟨g6, .cells (arr 5 r10) 25⟩, ⟨g7, .cells (arr 5 r12) 25⟩, ⟨g8, .cells (arr 5 r13) 25⟩, ⟨g9, .cells (arr 5 r14) 25⟩, ⟨g10, .cells (arr 5 (fun _ => 0)) 25⟩, ⟨g11, .cells (arr 5 (fun _ => 0)) 25⟩] w14 := M
  refine pl_put M (want_no rfl) rfl 25 _ _ rfl 9 g10 (by kernel_rfl) 5 25 (fun _ => 0) r15 rfl (by kernel_rfl) inz25 ?_
  intro w15 M
  replace M : Mem w [⟨g1, .cells (arr 20 (p4 5 px py pz pt)) 27⟩, ⟨g2, .cells (arr 20 (p4 5 qx qy qz qt)) 27⟩, ⟨g3, .cells (arr 20 (fun _ => 0)) 27⟩, ⟨g4, .cells (arr 5 r3) 25⟩, ⟨g5, .cells (arr 5 r6) 25⟩, ⟨g6, .cells (arr 5 r10) 25⟩, ⟨g7, .cells (arr 5 r12) 25⟩, ⟨g8, .cells (arr 5 r13) 25⟩, ⟨g9, .cells (arr 5 r14) 25⟩, ⟨g10, .cells (arr 5 r15) 25⟩, ⟨g11, .cells (arr 5 (fun _ => 0)) 25⟩] w15 := M
  refine pl_put M (want_no rfl) rfl 25 _ _ rfl 10 g11 (by kernel_rfl) 5 25 (fun _ => 0) r16 rfl (by kernel_rfl) inz25 ?_
  intro w16 M
  replace M : Mem w [⟨g1, .cells (arr 20 (p4 5 px py pz pt)) 27⟩, ⟨g2, .cells (arr 20 (p4 5 qx qy qz qt)) 27⟩, ⟨g3, .cells (arr 20 (fun _ => 0)) 27⟩, ⟨g4, .cells (arr 5 r3) 25⟩, ⟨g5, .cells (arr 5 r6) 25⟩, ⟨g6, .cells (arr 5 r10) 25⟩, ⟨g7, .cells (arr 5 r12) 25⟩, ⟨g8, .cells (arr 5 r13) 25⟩, ⟨g9, .cells (arr 5 r14) 25⟩, ⟨g10, .cells (arr 5 r15) 25⟩, ⟨g11, .cells (arr 5 r16) 25⟩] w16 := M
  refine nt ?_
  refine wp_seq ?_
  refine rg_tail M 13 (by kernel_rfl) (by kernel_rfl) ?_
  simp only [List.take_succ_cons, List.take_zero]
  refine k_load M (want_no rfl) (some 65) rfl 25 _ rfl 7 g8 0 (by kernel_rfl) 5 25 r13 rfl 5 r13 (Part.all _ _) (by decide) _ Tryz.underlying25 rfl inz25 ?_
  refine k_load M (want_no rfl) (some 66) rfl 25 _ rfl 8 g9 0 (by kernel_rfl) 5 25 r14 rfl 5 r14 (Part.all _ _) (by decide) _ Tryz.underlying25 rfl inz25 ?_
  refine k_call (want_no rfl) (some 67) rfl 59 #[.agg (arr 5 r13), .agg (arr 5 r14)] (.agg (arr 5 r17)) (fun _ => by kernel_rfl) F.h17 ?_
  refine k_load M (want_no rfl) (some 68) rfl 25 _ rfl 9 g10 0 (by kernel_rfl) 5 25 r15 rfl 5 r15 (Part.all _ _) (by decide) _ Tryz.underlying25 rfl inz25 ?_
  refine k_load M (want_no rfl) (some 69) rfl 25 _ rfl 10 g11 0 (by kernel_rfl) 5 25 r16 rfl 5 r16 (Part.all _ _) (by decide) _ Tryz.underlying25 rfl inz25 ?_
  refine k_call (want_no rfl) (some 70) rfl 59 #[.agg (arr 5 r15), .agg (arr 5 r16)] (.agg (arr 5 r18)) (fun _ => by kernel_rfl) F.h18 ?_
  refine k_load M (want_no rfl) (some 71) rfl 25 _ rfl 8 g9 0 (by kernel_rfl) 5 25 r14 rfl 5 r14 (Part.all _ _) (by decide) _ Tryz.underlying25 rfl inz25 ?_
  refine k_load M (want_no rfl) (some 72) rfl 25 _ rfl 9 g10 0 (by kernel_rfl) 5 25 r15 rfl 5 r15 (Part.all _ _) (by decide) _ Tryz.underlying25 rfl inz25 ?_
  refine k_call (want_no rfl) (some 73) rfl 59 #[.agg (arr 5 r14), .agg (arr 5 r15)] (.agg (arr 5 r19)) (fun _ => by kernel_rfl) F.h19 ?_
  refine k_load M (want_no rfl) (some 74) rfl 25 _ rfl 7 g8 0 (by kernel_rfl) 5 25 r13 rfl 5 r13 (Part.all _ _) (by decide) _ Tryz.underlying25 rfl inz25 ?_
  refine k_load M (want_no rfl) (some 75) rfl 25 _ rfl 10 g11 0 (by kernel_rfl) 5 25 r16 rfl 5 r16 (Part.all _ _) (by decide) _ Tryz.underlying25 rfl inz25 ?_
  refine k_call (want_no rfl) (some 76) rfl 59 #[.agg (arr 5 r13), .agg (arr 5 r16)] (.agg (arr 5 r20)) (fun _ => by kernel_rfl) F.h20 ?_
  refine kv 77 (.agg (arr 20 (p4 5 r17 r18 r19 r20))) ?_
  refine kl_nil ?_
  intro w17 M
  replace M : Mem w [⟨g1, .cells (arr 20 (p4 5 px py pz pt)) 27⟩, ⟨g2, .cells (arr 20 (p4 5 qx qy qz qt)) 27⟩, ⟨g3, .cells (arr 20 (fun _ => 0)) 27⟩, ⟨g4, .cells (arr 5 r3) 25⟩, ⟨g5, .cells (arr 5 r6) 25⟩, ⟨g6, .cells (arr 5 r10) 25⟩, ⟨g7, .cells (arr 5 r12) 25⟩, ⟨g8, .cells (arr 5 r13) 25⟩, ⟨g9, .cells (arr 5 r14) 25⟩, ⟨g10, .cells (arr 5 r15) 25⟩, ⟨g11, .cells (arr 5 r16) 25⟩] w17 := M
  refine pl_put M (want_no rfl) rfl 27 _ _ rfl 2 g3 (by kernel_rfl) 20 27 (fun _ => 0) (p4 5 r17 r18 r19 r20) rfl (by kernel_rfl) inz27 ?_
  intro w18 M
  replace M : Mem w [⟨g1, .cells (arr 20 (p4 5 px py pz pt)) 27⟩, ⟨g2, .cells (arr 20 (p4 5 qx qy qz qt)) 27⟩, ⟨g3, .cells (arr 20 (p4 5 r17 r18 r19 r20)) 27⟩, ⟨g4, .cells (arr 5 r3) 25⟩, ⟨g5, .cells (arr 5 r6) 25⟩, ⟨g6, .cells (arr 5 r10) 25⟩, ⟨g7, .cells (arr 5 r12) 25⟩, ⟨g8, .cells (arr 5 r13) 25⟩, ⟨g9, .cells (arr 5 r14) 25⟩, ⟨g10, .cells (arr 5 r15) 25⟩, ⟨g11, .cells (arr 5 r16) 25⟩] w18 := M
  refine nt ?_
  refine wp_ret ?_
  exact bodyPost_ret (v := .agg (arr 20 (p4 5 r17 r18 r19 r20))) (results_cell_row Tryz.results53 _ _ g3 27 (arr 20 (p4 5 r17 r18 r19 r20)) (0, 0) _ (by kernel_rfl) (M.get 2 rfl) Tryz.underlying27 rfl (by rw [arr_size]; exact inz27)) (by kernel_rfl) ⟨rfl, M.old⟩

structure doubleF (px py pz pt r1 r2 r3 r4 r5 r6 r7 r8 r9 r10 r11 r12 r13 r14 : Nat → Int) : Prop where
  h1 : ∀ w, Calls Tryz.prog 59 #[.agg (arr 5 px), .agg (arr 5 px)] w fun r w' => r = .returned (.agg (arr 5 r1)) ∧ Below w.heap.size w w'
  h2 : ∀ w, Calls Tryz.prog 59 #[.agg (arr 5 py), .agg (arr 5 py)] w fun r w' => r = .returned (.agg (arr 5 r2)) ∧ Below w.heap.size w w'
  h3 : ∀ w, Calls Tryz.prog 72 #[.agg (arr 5 pz), .agg (arr 5 pz)] w fun r w' => r = .returned (.agg (arr 5 r3)) ∧ Below w.heap.size w w'
  h4 : ∀ w, Calls Tryz.prog 59 #[.agg (arr 5 pz), .agg (arr 5 r3)] w fun r w' => r = .returned (.agg (arr 5 r4)) ∧ Below w.heap.size w w'
  h5 : ∀ w, Calls Tryz.prog 72 #[.agg (arr 5 px), .agg (arr 5 py)] w fun r w' => r = .returned (.agg (arr 5 r5)) ∧ Below w.heap.size w w'
  h6 : ∀ w, Calls Tryz.prog 72 #[.agg (arr 5 r1), .agg (arr 5 r2)] w fun r w' => r = .returned (.agg (arr 5 r6)) ∧ Below w.heap.size w w'
  h7 : ∀ w, Calls Tryz.prog 70 #[.agg (arr 5 r1), .agg (arr 5 r2)] w fun r w' => r = .returned (.agg (arr 5 r7)) ∧ Below w.heap.size w w'
  h8 : ∀ w, Calls Tryz.prog 59 #[.agg (arr 5 r5), .agg (arr 5 r5)] w fun r w' => r = .returned (.agg (arr 5 r8)) ∧ Below w.heap.size w w'
  h9 : ∀ w, Calls Tryz.prog 70 #[.agg (arr 5 r6), .agg (arr 5 r8)] w fun r w' => r = .returned (.agg (arr 5 r9)) ∧ Below w.heap.size w w'
  h10 : ∀ w, Calls Tryz.prog 72 #[.agg (arr 5 r4), .agg (arr 5 r7)] w fun r w' => r = .returned (.agg (arr 5 r10)) ∧ Below w.heap.size w w'
  h11 : ∀ w, Calls Tryz.prog 59 #[.agg (arr 5 r9), .agg (arr 5 r10)] w fun r w' => r = .returned (.agg (arr 5 r11)) ∧ Below w.heap.size w w'
  h12 : ∀ w, Calls Tryz.prog 59 #[.agg (arr 5 r7), .agg (arr 5 r6)] w fun r w' => r = .returned (.agg (arr 5 r12)) ∧ Below w.heap.size w w'
  h13 : ∀ w, Calls Tryz.prog 59 #[.agg (arr 5 r10), .agg (arr 5 r7)] w fun r w' => r = .returned (.agg (arr 5 r13)) ∧ Below w.heap.size w w'
  h14 : ∀ w, Calls Tryz.prog 59 #[.agg (arr 5 r9), .agg (arr 5 r6)] w fun r w' => r = .returned (.agg (arr 5 r14)) ∧ Below w.heap.size w w'

set_option maxRecDepth 100000 in
set_option maxHeartbeats 4000000 in
theorem double_gen (px py pz pt r1 r2 r3 r4 r5 r6 r7 r8 r9 r10 r11 r12 r13 r14 : Nat → Int) (w : World) (F : doubleF px py pz pt r1 r2 r3 r4 r5 r6 r7 r8 r9 r10 r11 r12 r13 r14)  :
    Calls Tryz.prog 87 #[.agg (arr 20 (p4 5 px py pz pt))] w fun r w' => r = .returned (.agg (arr 20 (p4 5 r11 r12 r13 r14))) ∧ Below w.heap.size w w' := by
  go_enter Tryz.func87, Tryz.ntmps87
  have M := Mem.start w
  refine sr ?_
  refine pl_new M (want_no rfl) (some 1) rfl (.cells (arr 20 (p4 5 px py pz pt)) 27) (fun _ => by kernel_rfl) ?_
  intro g1 w1 M
  replace M : Mem w [⟨g1, .cells (arr 20 (p4 5 px py pz pt)) 27⟩] w1 := M
  refine pl_new M (want_no rfl) (some 2) rfl (.cells (arr 20 (fun _ => 0)) 27) (fun _ => by kernel_rfl) ?_
  intro g2 w2 M
  replace M : Mem w [⟨g1, .cells (arr 20 (p4 5 px py pz pt)) 27⟩, ⟨g2, .cells (arr 20 (fun _ => 0)) 27⟩] w2 := M
  refine nt ?_
  refine wp_seq ?_
  refine rg_allocs M 10 [(3, 25, 5), (4, 25, 5)] (by kernel_rfl) (by kernel_rfl) ⟨rfl, rfl, fun _ _ => by kernel_rfl, rfl, rfl, fun _ _ => by kernel_rfl, trivial⟩ (by decide) ?_
  simp only [List.take_succ_cons, List.take_zero]
  refine kv 11 (.pointer (some ⟨g1, 0, none⟩)) ?_
  refine k_load M (want_no rfl) (some 12) rfl 25 _ rfl 0 g1 0 (by kernel_rfl) 20 27 (p4 5 px py pz pt) rfl 5 px (p4_0 5 px py pz pt 0 rfl) (by decide) _ Tryz.underlying25 rfl inz25 ?_
  refine kv 13 (.pointer (some ⟨g1, 0, none⟩)) ?_
  refine k_load M (want_no rfl) (some 14) rfl 25 _ rfl 0 g1 0 (by kernel_rfl) 20 27 (p4 5 px py pz pt) rfl 5 px (p4_0 5 px py pz pt 0 rfl) (by decide) _ Tryz.underlying25 rfl inz25 ?_
  refine k_call (want_no rfl) (some 15) rfl 59 #[.agg (arr 5 px), .agg (arr 5 px)] (.agg (arr 5 r1)) (fun _ => by kernel_rfl) F.h1 ?_
  refine kv 16 (.pointer (some ⟨g1, 5, none⟩)) ?_
  refine k_load M (want_no rfl) (some 17) rfl 25 _ rfl 0 g1 5 (by kernel_rfl) 20 27 (p4 5 px py pz pt) rfl 5 py (p4_1 5 px py pz pt 5 rfl) (by decide) _ Tryz.underlying25 rfl inz25 ?_
  refine kv 18 (.pointer (some ⟨g1, 5, none⟩)) ?_
  refine k_load M (want_no rfl) (some 19) rfl 25 _ rfl 0 g1 5 (by kernel_rfl) 20 27 (p4 5 px py pz pt) rfl 5 py (p4_1 5 px py pz pt 5 rfl) (by decide) _ Tryz.underlying25 rfl inz25 ?_
  refine k_call (want_no rfl) (some 20) rfl 59 #[.agg (arr 5 py), .agg (arr 5 py)] (.agg (arr 5 r2)) (fun _ => by kernel_rfl) F.h2 ?_
  refine kl_nil ?_
  intro w3 g3 g4 M
  replace M : Mem w [⟨g1, .cells (arr 20 (p4 5 px py pz pt)) 27⟩, ⟨g2, .cells (arr 20 (fun _ => 0)) 27⟩, ⟨g3, .cells (arr 5 (fun _ => 0)) 25⟩, ⟨g4, .cells (arr 5 (fun _ => 0)) 25⟩] w3 := M
  refine pl_put M (want_no rfl) rfl 25 _ _ rfl 2 g3 (by kernel_rfl) 5 25 (fun _ => 0) r1 rfl (by kernel_rfl) inz25 ?_
  intro w4 M
  replace M : Mem w [⟨g1, .cells (arr 20 (p4 5 px py pz pt)) 27⟩, ⟨g2, .cells (arr 20 (fun _ => 0)) 27⟩, ⟨g3, .cells (arr 5 r1) 25⟩, ⟨g4, .cells (arr 5 (fun _ => 0)) 25⟩] w4 := M
  refine pl_put M (want_no rfl) rfl 25 _ _ rfl 3 g4 (by kernel_rfl) 5 25 (fun _ => 0) r2 rfl (by kernel_rfl) inz25 ?_
  intro w5 M
  replace M : Mem w [⟨g1, .cells (arr 20 (p4 5 px py pz pt)) 27⟩, ⟨g2, .cells (arr 20 (fun _ => 0)) 27⟩, ⟨g3, .cells (arr 5 r1) 25⟩, ⟨g4, .cells (arr 5 r2) 25⟩] w5 := M
  refine nt ?_
  refine wp_seq ?_
  refine rg_allocs M 8 [(5, 25, 5)] (by kernel_rfl) (by kernel_rfl) ⟨rfl, rfl, fun _ _ => by kernel_rfl, trivial⟩ (by decide) ?_
  simp only [List.take_succ_cons, List.take_zero]
  refine kv 21 (.pointer (some ⟨g1, 10, none⟩)) ?_
  refine k_load M (want_no rfl) (some 22) rfl 25 _ rfl 0 g1 10 (by kernel_rfl) 20 27 (p4 5 px py pz pt) rfl 5 pz (p4_2 5 px py pz pt 10 rfl) (by decide) _ Tryz.underlying25 rfl inz25 ?_
  refine kv 23 (.pointer (some ⟨g1, 10, none⟩)) ?_
  refine k_load M (want_no rfl) (some 24) rfl 25 _ rfl 0 g1 10 (by kernel_rfl) 20 27 (p4 5 px py pz pt) rfl 5 pz (p4_2 5 px py pz pt 10 rfl) (by decide) _ Tryz.underlying25 rfl inz25 ?_
  refine kv 25 (.pointer (some ⟨g1, 10, none⟩)) ?_
  refine k_load M (want_no rfl) (some 26) rfl 25 _ rfl 0 g1 10 (by kernel_rfl) 20 27 (p4 5 px py pz pt) rfl 5 pz (p4_2 5 px py pz pt 10 rfl) (by decide) _ Tryz.underlying25 rfl inz25 ?_
  refine k_call (want_no rfl) (some 27) rfl 72 #[.agg (arr 5 pz), .agg (arr 5 pz)] (.agg (arr 5 r3)) (fun _ => by kernel_rfl) F.h3 ?_
  refine k_call (want_no rfl) (some 28) rfl 59 #[.agg (arr 5 pz), .agg (arr 5 r3)] (.agg (arr 5 r4)) (fun _ => by kernel_rfl) F.h4 ?_
  refine kl_nil ?_
  intro w6 g5 M
  replace M : Mem w [⟨g1, .cells (arr 20 (p4 5 px py pz pt)) 27⟩, ⟨g2, .cells (arr 20 (fun _ => 0)) 27⟩, ⟨g3, .cells (arr 5 r1) 25⟩, ⟨g4, .cells (arr 5 r2) 25⟩, ⟨g5, .cells (arr 5 (fun _ => 0)) 25⟩] w6 := M
  refine pl_put M (want_no rfl) rfl 25 _ _ rfl 4 g5 (by kernel_rfl) 5 25 (fun _ => 0) r4 rfl (by kernel_rfl) inz25 ?_
  intro w7 M
  replace M : Mem w [⟨g1, .cells (arr 20 (p4 5 px py pz pt)) 27⟩, ⟨g2, .cells (arr 20 (fun _ => 0)) 27⟩, ⟨g3, .cells (arr 5 r1) 25⟩, ⟨g4, .cells (arr 5 r2) 25⟩, ⟨g5, .cells (arr 5 r4) 25⟩] w7 := M
  refine nt ?_
  refine sr ?_
  refine pv 29 (.pointer (some ⟨g1, 0, none⟩)) ?_
  refine pl_load M (want_no rfl) (some 30) rfl 25 _ rfl 0 g1 0 (by kernel_rfl) 20 27 (p4 5 px py pz pt) rfl 5 px (p4_0 5 px py pz pt 0 rfl) (by decide) _ Tryz.underlying25 rfl inz25 ?_
  refine pv 31 (.pointer (some ⟨g1, 5, none⟩)) ?_
  refine pl_load M (want_no rfl) (some 32) rfl 25 _ rfl 0 g1 5 (by kernel_rfl) 20 27 (p4 5 px py pz pt) rfl 5 py (p4_1 5 px py pz pt 5 rfl) (by decide) _ Tryz.underlying25 rfl inz25 ?_
  refine pl_call M (want_no rfl) (some 33) rfl 72 #[.agg (arr 5 px), .agg (arr 5 py)] (.agg (arr 5 r5)) (fun _ => by kernel_rfl) F.h5 ?_
  intro w8 M
  refine pl_new M (want_no rfl) (some 6) rfl (.cells (arr 5 (fun _ => 0)) 25) (fun _ => by kernel_rfl) ?_
  intro g6 w9 M
  replace M : Mem w [⟨g1, .cells (arr 20 (p4 5 px py pz pt)) 27⟩, ⟨g2, .cells (arr 20 (fun _ => 0)) 27⟩, ⟨g3, .cells (arr 5 r1) 25⟩, ⟨g4, .cells (arr 5 r2) 25⟩, ⟨g5, .cells (arr 5 r4) 25⟩, ⟨g6, .cells (arr 5 (fun _ => 0)) 25⟩] w9 := M
  refine pl_put M (want_no rfl) rfl 25 _ _ rfl 5 g6 (by kernel_rfl) 5 25 (fun _ => 0) r5 rfl (by kernel_rfl) inz25 ?_
  intro w10 M
  replace M : Mem w [⟨g1, .cells (arr 20 (p4 5 px py pz pt)) 27⟩, ⟨g2, .cells (arr 20 (fun _ => 0)) 27⟩, ⟨g3, .cells (arr 5 r1) 25⟩, ⟨g4, .cells (arr 5 r2) 25⟩, ⟨g5, .cells (arr 5 r4) 25⟩, ⟨g6, .cells (arr 5 r5) 25⟩] w10 := M
  refine nt ?_
  refine wp_seq ?_
  refine rg_allocs M 6 [(7, 25, 5), (8, 25, 5)] (by kernel_rfl) (by kernel_rfl) ⟨rfl, rfl, fun _ _ => by kernel_rfl, rfl, rfl, fun _ _ => by kernel_rfl, trivial⟩ (by decide) ?_
  simp only [List.take_succ_cons, List.take_zero]
  refine k_load M (want_no rfl) (some 34) rfl 25 _ rfl 2 g3 0 (by kernel_rfl) 5 25 r1 rfl 5 r1 (Part.all _ _) (by decide) _ Tryz.underlying25 rfl inz25 ?_
  refine k_load M (want_no rfl) (some 35) rfl 25 _ rfl 3 g4 0 (by kernel_rfl) 5 25 r2 rfl 5 r2 (Part.all _ _) (by decide) _ Tryz.underlying25 rfl inz25 ?_
  refine k_call (want_no rfl) (some 36) rfl 72 #[.agg (arr 5 r1), .agg (arr 5 r2)] (.agg (arr 5 r6)) (fun _ => by kernel_rfl) F.h6 ?_
  refine k_load M (want_no rfl) (some 37) rfl 25 _ rfl 2 g3 0 (by kernel_rfl) 5 25 r1 rfl 5 r1 (Part.all _ _) (by decide) _ Tryz.underlying25 rfl inz25 ?_
  refine k_load M (want_no rfl) (some 38) rfl 25 _ rfl 3 g4 0 (by kernel_rfl) 5 25 r2 rfl 5 r2 (Part.all _ _) (by decide) _ Tryz.underlying25 rfl inz25 ?_
  refine k_call (want_no rfl) (some 39) rfl 70 #[.agg (arr 5 r1), .agg (arr 5 r2)] (.agg (arr 5 r7)) (fun _ => by kernel_rfl) F.h7 ?_
  refine kl_nil ?_
  intro w11 g7 g8 M
  replace M : Mem w [⟨g1, .cells (arr 20 (p4 5 px py pz pt)) 27⟩, ⟨g2, .cells (arr 20 (fun _ => 0)) 27⟩, ⟨g3, .cells (arr 5 r1) 25⟩, ⟨g4, .cells (arr 5 r2) 25⟩, ⟨g5, .cells (arr 5 r4) 25⟩, ⟨g6, .cells (arr 5 r5) 25⟩, ⟨g7, .cells (arr 5 (fun _ => 0)) 25⟩, ⟨g8, .cells (arr 5 (fun _ => 0)) 25⟩] w11 := M
  refine pl_put M (want_no rfl) rfl 25 _ _ rfl 6 g7 (by kernel_rfl) 5 25 (fun _ => 0) r6 rfl (by kernel_rfl) inz25 ?_
  intro w12 M
  replace M : Mem w [⟨g1, .cells (arr 20 (p4 5 px py pz pt)) 27⟩, ⟨g2, .cells (arr 20 (fun _ => 0)) 27⟩, ⟨g3, .cells (arr 5 r1) 25⟩, ⟨g4, .cells (arr 5 r2) 25⟩, ⟨g5, .cells (arr 5 r4) 25⟩, ⟨g6, .cells (arr 5 r5) 25⟩, ⟨g7, .cells (arr 5 r6) 25⟩, ⟨g8, .cells (arr 5 (fun _ => 0)) 25⟩] w12 := M
  refine pl_put M (want_no rfl) rfl 25 _ _ rfl 7 g8 (by kernel_rfl) 5 25 (fun _ => 0) r7 rfl (by kernel_rfl) inz25 ?_
  intro w13 M
  replace M : Mem w [⟨g1, .cells (arr 20 (p4 5 px py pz pt)) 27⟩, ⟨g2, .cells (arr 20 (fun _ => 0)) 27⟩, ⟨g3, .cells (arr 5 r1) 25⟩, ⟨g4, .cells (arr 5 r2) 25⟩, ⟨g5, .cells (arr 5 r4) 25⟩, ⟨g6, .cells (arr 5 r5) 25⟩, ⟨g7, .cells (arr 5 r6) 25⟩, ⟨g8, .cells (arr 5 r7) 25⟩] w13 := M
  refine nt ?_
  refine wp_seq ?_
  refine rg_allocs M 8 [(9, 25, 5), (10, 25, 5)] (by kernel_rfl) (by kernel_rfl) ⟨rfl, rfl, fun _ _ => by kernel_rfl, rfl, rfl, fun _ _ => by kernel_rfl, trivial⟩ (by decide) ?_
  simp only [List.take_succ_cons, List.take_zero]
  refine k_load M (want_no rfl) (some 40) rfl 25 _ rfl 6 g7 0 (by kernel_rfl) 5 25 r6 rfl 5 r6 (Part.all _ _) (by decide) _ Tryz.underlying25 rfl inz25 ?_
  refine k_load M (want_no rfl) (some 41) rfl 25 _ rfl 5 g6 0 (by kernel_rfl) 5 25 r5 rfl 5 r5 (Part.all _ _) (by decide) _ Tryz.underlying25 rfl inz25 ?_
  refine k_load M (want_no rfl) (some 42) rfl 25 _ rfl 5 g6 0 (by kernel_rfl) 5 25 r5 rfl 5 r5 (Part.all _ _) (by decide) _ Tryz.underlying25 rfl inz25 ?_
  refine k_call (want_no rfl) (some 43) rfl 59 #[.agg (arr 5 r5), .agg (arr 5 r5)] (.agg (arr 5 r8)) (fun _ => by kernel_rfl) F.h8 ?_
  refine k_call (want_no rfl) (some 44) rfl 70 #[.agg (arr 5 r6), .agg (arr 5 r8)] (.agg (arr 5 r9)) (fun _ => by kernel_rfl) F.h9 ?_
  refine k_load M (want_no rfl) (some 45) rfl 25 _ rfl 4 g5 0 (by kernel_rfl) 5 25 r4 rfl 5 r4 (Part.all _ _) (by decide) _ Tryz.underlying25 rfl inz25 ?_
  refine k_load M (want_no rfl) (some 46) rfl 25 _ rfl 7 g8 0 (by kernel_rfl) 5 25 r7 rfl 5 r7 (Part.all _ _) (by decide) _ Tryz.underlying25 rfl inz25 ?_
  refine k_call (want_no rfl) (some 47) rfl 72 #[.agg (arr 5 r4), .agg (arr 5 r7)] (.agg (arr 5 r10)) (fun _ => by kernel_rfl) F.h10 ?_
  refine kl_nil ?_
  intro w14 g9 g10 M
  replace M : Mem w [⟨g1, .cells (arr 20 (p4 5 px py pz pt)) 27⟩, ⟨g2, .cells (arr 20 (fun _ => 0)) 27⟩, ⟨g3, .cells (arr 5 r1) 25⟩, ⟨g4, .cells (arr 5 r2) 25⟩, ⟨g5, .cells (arr 5 r4) 25⟩, ⟨g6, .cells (arr 5 r5) 25⟩, ⟨g7, .cells (arr 5 r6) 25⟩, ⟨g8, .cells (arr 5 r7) 25⟩, ⟨g9, .cells (arr 5 (fun _ => 0)) 25⟩, ⟨g10, .cells (arr 5 (fun _ => 0)) 25⟩] w14 := M
  refine pl_put M (want_no rfl) rfl 25 _ _ rfl 8 g9 (by kernel_rfl) 5 25 (fun _ => 0) r9 rfl (by kernel_rfl) inz25 ?_
  intro w15 M
  replace M : Mem w [⟨g1, .cells (arr 20 (p4 5 px py pz pt)) 27⟩, ⟨g2, .cells (arr 20 (fun _ => 0)) 27⟩, ⟨g3, .cells (arr 5 r1) 25⟩, ⟨g4, .cells (arr 5 r2) 25⟩, ⟨g5, .cells (arr 5 r4) 25⟩, ⟨g6, .cells (arr 5 r5) 25⟩, ⟨g7, .cells (arr 5 r6) 25⟩, ⟨g8, .cells (arr 5 r7) 25⟩, ⟨g9, .cells (arr 5 r9) 25⟩, ⟨g10, .cells (arr 5 (fun _ => 0)) 25⟩] w15 := M
  refine pl_put M (want_no rfl) rfl 25 _ _ rfl 9 g10 (by kernel_rfl) 5 25 (fun _ => 0) r10 rfl (by kernel_rfl) inz25 ?_
  intro w16 M
  replace M : Mem w [⟨g1, .cells (arr 20 (p4 5 px py pz pt)) 27⟩, ⟨g2, .cells (arr 20 (fun _ => 0)) 27⟩, ⟨g3, .cells (arr 5 r1) 25⟩, ⟨g4, .cells (arr 5 r2) 25⟩, ⟨g5, .cells (arr 5 r4) 25⟩, ⟨g6, .cells (arr 5 r5) 25⟩, ⟨g7, .cells (arr 5 r6) 25⟩, ⟨g8, .cells (arr 5 r7) 25⟩, ⟨g9, .cells (arr 5 r9) 25⟩, ⟨g10, .cells (arr 5 r10) 25⟩] w16 := M
  refine nt ?_
  refine wp_seq ?_
  refine rg_tail M 13 (by kernel_rfl) (by kernel_rfl) ?_
  simp only [List.take_succ_cons, List.take_zero]
  refine k_load M (want_no rfl) (some 48) rfl 25 _ rfl 8 g9 0 (by kernel_rfl) 5 25 r9 rfl 5 r9 (Part.all _ _) (by decide) _ Tryz.underlying25 rfl inz25 ?_
  refine k_load M (want_no rfl) (some 49) rfl 25 _ rfl 9 g10 0 (by kernel_rfl) 5 25 r10 rfl 5 r10 (Part.all _ _) (by decide) _ Tryz.underlying25 rfl inz25 ?_
  refine k_call (want_no rfl) (some 50) rfl 59 #[.agg (arr 5 r9), .agg (arr 5 r10)] (.agg (arr 5 r11)) (fun _ => by kernel_rfl) F.h11 ?_
  refine k_load M (want_no rfl) (some 51) rfl 25 _ rfl 7 g8 0 (by kernel_rfl) 5 25 r7 rfl 5 r7 (Part.all _ _) (by decide) _ Tryz.underlying25 rfl inz25 ?_
  refine k_load M (want_no rfl) (some 52) rfl 25 _ rfl 6 g7 0 (by kernel_rfl) 5 25 r6 rfl 5 r6 (Part.all _ _) (by decide) _ Tryz.underlying25 rfl inz25 ?_
  refine k_call (want_no rfl) (some 53) rfl 59 #[.agg (arr 5 r7), .agg (arr 5 r6)] (.agg (arr 5 r12)) (fun _ => by kernel_rfl) F.h12 ?_
  refine k_load M (want_no rfl) (some 54) rfl 25 _ rfl 9 g10 0 (by kernel_rfl) 5 25 r10 rfl 5 r10 (Part.all _ _) (by decide) _ Tryz.underlying25 rfl inz25 ?_
  refine k_load M (want_no rfl) (some 55) rfl 25 _ rfl 7 g8 0 (by kernel_rfl) 5 25 r7 rfl 5 r7 (Part.all _ _) (by decide) _ Tryz.underlying25 rfl inz25 ?_
  refine k_call (want_no rfl) (some 56) rfl 59 #[.agg (arr 5 r10), .agg (arr 5 r7)] (.agg (arr 5 r13)) (fun _ => by kernel_rfl) F.h13 ?_
  refine k_load M (want_no rfl) (some 57) rfl 25 _ rfl 8 g9 0 (by kernel_rfl) 5 25 r9 rfl 5 r9 (Part.all _ _) (by decide) _ Tryz.underlying25 rfl inz25 ?_
  refine k_load M (want_no rfl) (some 58) rfl 25 _ rfl 6 g7 0 (by kernel_rfl) 5 25 r6 rfl 5 r6 (Part.all _ _) (by decide) _ Tryz.underlying25 rfl inz25 ?_
  refine k_call (want_no rfl) (some 59) rfl 59 #[.agg (arr 5 r9), .agg (arr 5 r6)] (.agg (arr 5 r14)) (fun _ => by kernel_rfl) F.h14 ?_
  refine kv 60 (.agg (arr 20 (p4 5 r11 r12 r13 r14))) ?_
  refine kl_nil ?_
  intro w17 M
  replace M : Mem w [⟨g1, .cells (arr 20 (p4 5 px py pz pt)) 27⟩, ⟨g2, .cells (arr 20 (fun _ => 0)) 27⟩, ⟨g3, .cells (arr 5 r1) 25⟩, ⟨g4, .cells (arr 5 r2) 25⟩, ⟨g5, .cells (arr 5 r4) 25⟩, ⟨g6, .cells (arr 5 r5) 25⟩, ⟨g7, .cells (arr 5 r6) 25⟩, ⟨g8, .cells (arr 5 r7) 25⟩, ⟨g9, .cells (arr 5 r9) 25⟩, ⟨g10, .cells (arr 5 r10) 25⟩] w17 := M
  refine pl_put M (want_no rfl) rfl 27 _ _ rfl 1 g2 (by kernel_rfl) 20 27 (fun _ => 0) (p4 5 r11 r12 r13 r14) rfl (by kernel_rfl) inz27 ?_
  intro w18 M
  replace M : Mem w [⟨g1, .cells (arr 20 (p4 5 px py pz pt)) 27⟩, ⟨g2, .cells (arr 20 (p4 5 r11 r12 r13 r14)) 27⟩, ⟨g3, .cells (arr 5 r1) 25⟩, ⟨g4, .cells (arr 5 r2) 25⟩, ⟨g5, .cells (arr 5 r4) 25⟩, ⟨g6, .cells (arr 5 r5) 25⟩, ⟨g7, .cells (arr 5 r6) 25⟩, ⟨g8, .cells (arr 5 r7) 25⟩, ⟨g9, .cells (arr 5 r9) 25⟩, ⟨g10, .cells (arr 5 r10) 25⟩] w18 := M
  refine nt ?_
  refine wp_ret ?_
  exact bodyPost_ret (v := .agg (arr 20 (p4 5 r11 r12 r13 r14))) (results_cell_row Tryz.results87 _ _ g2 27 (arr 20 (p4 5 r11 r12 r13 r14)) (0, 0) _ (by kernel_rfl) (M.get 1 rfl) Tryz.underlying27 rfl (by rw [arr_size]; exact inz27)) (by kernel_rfl) ⟨rfl, M.old⟩


end Go.Proofs.YtkeocdebfgcnnaaGreat

/- More walks of the points, told by what their callees hand back. -/
namespace Go.Proofs.YtkeocdebfgcnnaaGreat
open Go.RowKit

structure addN1F (px py pz pt qx qy qz qt : Nat → Int) : Prop where
  h1 : ∀ w, Calls Tryz.prog 52 #[.agg (arr 20 (p4 5 px py pz pt))] w fun r w' => r = .returned (.bool true) ∧ Below w.heap.size w w'

set_option maxRecDepth 100000 in
set_option maxHeartbeats 4000000 in
theorem addN1_gen (px py pz pt qx qy qz qt : Nat → Int) (w : World) (F : addN1F px py pz pt qx qy qz qt)  :
    Calls Tryz.prog 11 #[.agg (arr 20 (p4 5 px py pz pt)), .agg (arr 20 (p4 5 qx qy qz qt))] w fun r w' => r = .returned (.agg (arr 20 (fun _ => 0))) ∧ Below w.heap.size w w' := by
  go_enter Tryz.func11, Tryz.ntmps11
  have M := Mem.start w
  refine sr ?_
  refine pl_new M (want_no rfl) (some 2) rfl (.cells (arr 20 (p4 5 px py pz pt)) 27) (fun _ => by kernel_rfl) ?_
  intro g1 w1 M
  replace M : Mem w [⟨g1, .cells (arr 20 (p4 5 px py pz pt)) 27⟩] w1 := M
  refine pl_new M (want_no rfl) (some 3) rfl (.cells (arr 20 (p4 5 qx qy qz qt)) 27) (fun _ => by kernel_rfl) ?_
  intro g2 w2 M
  replace M : Mem w [⟨g1, .cells (arr 20 (p4 5 px py pz pt)) 27⟩, ⟨g2, .cells (arr 20 (p4 5 qx qy qz qt)) 27⟩] w2 := M
  refine pl_new M (want_no rfl) (some 4) rfl (.cells (arr 20 (fun _ => 0)) 27) (fun _ => by kernel_rfl) ?_
  intro g3 w3 M
  replace M : Mem w [⟨g1, .cells (arr 20 (p4 5 px py pz pt)) 27⟩, ⟨g2, .cells (arr 20 (p4 5 qx qy qz qt)) 27⟩, ⟨g3, .cells (arr 20 (fun _ => 0)) 27⟩] w3 := M
  refine nt ?_
  refine wp_seq ?_
  refine sr ?_
  refine pl_load M (want_no rfl) (some 5) rfl 27 _ rfl 0 g1 0 (by kernel_rfl) 20 27 (p4 5 px py pz pt) rfl 20 (p4 5 px py pz pt) (Part.all _ _) (by decide) _ Tryz.underlying27 rfl inz27 ?_
  refine pl_call M (want_no rfl) (some 6) rfl 52 #[.agg (arr 20 (p4 5 px py pz pt))] (.bool true) (fun _ => by kernel_rfl) F.h1 ?_
  intro w4 M
  refine pv 7 (.bool true) ?_
  refine pl_skip (want_off 2 false rfl 7 rfl (by kernel_rfl)) (some 8) rfl ?_
  refine pl_skip (want_off 2 false rfl 7 rfl (by kernel_rfl)) (some 9) rfl ?_
  refine pv 10 (.bool true) ?_
  refine nt ?_
  refine wp_cond_true (by kernel_rfl) ?_
  refine sr ?_
  refine pv 11 (.agg (arr 20 (fun _ => 0))) ?_
  refine pl_put M (want_no rfl) rfl 27 _ _ rfl 2 g3 (by kernel_rfl) 20 27 (fun _ => 0) (fun _ => 0) rfl (by kernel_rfl) inz27 ?_
  intro w5 M
  replace M : Mem w [⟨g1, .cells (arr 20 (p4 5 px py pz pt)) 27⟩, ⟨g2, .cells (arr 20 (p4 5 qx qy qz qt)) 27⟩, ⟨g3, .cells (arr 20 (fun _ => 0)) 27⟩] w5 := M
  refine nt ?_
  refine wp_ret ?_
  refine au_then_ret ?_
  exact bodyPost_ret (v := .agg (arr 20 (fun _ => 0))) (results_cell_row Tryz.results11 _ _ g3 27 (arr 20 (fun _ => 0)) (0, 0) _ (by kernel_rfl) (M.get 2 rfl) Tryz.underlying27 rfl (by rw [arr_size]; exact inz27)) (by kernel_rfl) ⟨rfl, M.old⟩

structure addN2F (px py pz pt qx qy qz qt : Nat → Int) : Prop where
  h1 : ∀ w, Calls Tryz.prog 52 #[.agg (arr 20 (p4 5 px py pz pt))] w fun r w' => r = .returned (.bool false) ∧ Below w.heap.size w w'
  h2 : ∀ w, Calls Tryz.prog 52 #[.agg (arr 20 (p4 5 qx qy qz qt))] w fun r w' => r = .returned (.bool true) ∧ Below w.heap.size w w'

set_option maxRecDepth 100000 in
set_option maxHeartbeats 4000000 in
theorem addN2_gen (px py pz pt qx qy qz qt : Nat → Int) (w : World) (F : addN2F px py pz pt qx qy qz qt)  :
    Calls Tryz.prog 11 #[.agg (arr 20 (p4 5 px py pz pt)), .agg (arr 20 (p4 5 qx qy qz qt))] w fun r w' => r = .returned (.agg (arr 20 (fun _ => 0))) ∧ Below w.heap.size w w' := by
  go_enter Tryz.func11, Tryz.ntmps11
  have M := Mem.start w
  refine sr ?_
  refine pl_new M (want_no rfl) (some 2) rfl (.cells (arr 20 (p4 5 px py pz pt)) 27) (fun _ => by kernel_rfl) ?_
  intro g1 w1 M
  replace M : Mem w [⟨g1, .cells (arr 20 (p4 5 px py pz pt)) 27⟩] w1 := M
  refine pl_new M (want_no rfl) (some 3) rfl (.cells (arr 20 (p4 5 qx qy qz qt)) 27) (fun _ => by kernel_rfl) ?_
  intro g2 w2 M
  replace M : Mem w [⟨g1, .cells (arr 20 (p4 5 px py pz pt)) 27⟩, ⟨g2, .cells (arr 20 (p4 5 qx qy qz qt)) 27⟩] w2 := M
  refine pl_new M (want_no rfl) (some 4) rfl (.cells (arr 20 (fun _ => 0)) 27) (fun _ => by kernel_rfl) ?_
  intro g3 w3 M
  replace M : Mem w [⟨g1, .cells (arr 20 (p4 5 px py pz pt)) 27⟩, ⟨g2, .cells (arr 20 (p4 5 qx qy qz qt)) 27⟩, ⟨g3, .cells (arr 20 (fun _ => 0)) 27⟩] w3 := M
  refine nt ?_
  refine wp_seq ?_
  refine sr ?_
  refine pl_load M (want_no rfl) (some 5) rfl 27 _ rfl 0 g1 0 (by kernel_rfl) 20 27 (p4 5 px py pz pt) rfl 20 (p4 5 px py pz pt) (Part.all _ _) (by decide) _ Tryz.underlying27 rfl inz27 ?_
  refine pl_call M (want_no rfl) (some 6) rfl 52 #[.agg (arr 20 (p4 5 px py pz pt))] (.bool false) (fun _ => by kernel_rfl) F.h1 ?_
  intro w4 M
  refine pv 7 (.bool false) ?_
  refine pl_load M (want_on 2 false rfl 7 rfl (by kernel_rfl)) (some 8) rfl 27 _ rfl 1 g2 0 (by kernel_rfl) 20 27 (p4 5 qx qy qz qt) rfl 20 (p4 5 qx qy qz qt) (Part.all _ _) (by decide) _ Tryz.underlying27 rfl inz27 ?_
  refine pl_call M (want_on 2 false rfl 7 rfl (by kernel_rfl)) (some 9) rfl 52 #[.agg (arr 20 (p4 5 qx qy qz qt))] (.bool true) (fun _ => by kernel_rfl) F.h2 ?_
  intro w5 M
  refine pv 10 (.bool true) ?_
  refine nt ?_
  refine wp_cond_true (by kernel_rfl) ?_
  refine sr ?_
  refine pv 11 (.agg (arr 20 (fun _ => 0))) ?_
  refine pl_put M (want_no rfl) rfl 27 _ _ rfl 2 g3 (by kernel_rfl) 20 27 (fun _ => 0) (fun _ => 0) rfl (by kernel_rfl) inz27 ?_
  intro w6 M
  replace M : Mem w [⟨g1, .cells (arr 20 (p4 5 px py pz pt)) 27⟩, ⟨g2, .cells (arr 20 (p4 5 qx qy qz qt)) 27⟩, ⟨g3, .cells (arr 20 (fun _ => 0)) 27⟩] w6 := M
  refine nt ?_
  refine wp_ret ?_
  refine au_then_ret ?_
  exact bodyPost_ret (v := .agg (arr 20 (fun _ => 0))) (results_cell_row Tryz.results11 _ _ g3 27 (arr 20 (fun _ => 0)) (0, 0) _ (by kernel_rfl) (M.get 2 rfl) Tryz.underlying27 rfl (by rw [arr_size]; exact inz27)) (by kernel_rfl) ⟨rfl, M.old⟩

structure addYF (px py pz pt qx qy qz qt r1 : Nat → Int) : Prop where
  h1 : ∀ w, Calls Tryz.prog 52 #[.agg (arr 20 (p4 5 px py pz pt))] w fun r w' => r = .returned (.bool false) ∧ Below w.heap.size w w'
  h2 : ∀ w, Calls Tryz.prog 52 #[.agg (arr 20 (p4 5 qx qy qz qt))] w fun r w' => r = .returned (.bool false) ∧ Below w.heap.size w w'
  h3 : ∀ w, Calls Tryz.prog 53 #[.agg (arr 20 (p4 5 px py pz pt)), .agg (arr 20 (p4 5 qx qy qz qt))] w fun r w' => r = .returned (.agg (arr 20 r1)) ∧ Below w.heap.size w w'

set_option maxRecDepth 100000 in
set_option maxHeartbeats 4000000 in
theorem addY_gen (px py pz pt qx qy qz qt r1 : Nat → Int) (w : World) (F : addYF px py pz pt qx qy qz qt r1)  :
    Calls Tryz.prog 11 #[.agg (arr 20 (p4 5 px py pz pt)), .agg (arr 20 (p4 5 qx qy qz qt))] w fun r w' => r = .returned (.agg (arr 20 r1)) ∧ Below w.heap.size w w' := by
  go_enter Tryz.func11, Tryz.ntmps11
  have M := Mem.start w
  refine sr ?_
  refine pl_new M (want_no rfl) (some 2) rfl (.cells (arr 20 (p4 5 px py pz pt)) 27) (fun _ => by kernel_rfl) ?_
  intro g1 w1 M
  replace M : Mem w [⟨g1, .cells (arr 20 (p4 5 px py pz pt)) 27⟩] w1 := M
  refine pl_new M (want_no rfl) (some 3) rfl (.cells (arr 20 (p4 5 qx qy qz qt)) 27) (fun _ => by kernel_rfl) ?_
  intro g2 w2 M
  replace M : Mem w [⟨g1, .cells (arr 20 (p4 5 px py pz pt)) 27⟩, ⟨g2, .cells (arr 20 (p4 5 qx qy qz qt)) 27⟩] w2 := M
  refine pl_new M (want_no rfl) (some 4) rfl (.cells (arr 20 (fun _ => 0)) 27) (fun _ => by kernel_rfl) ?_
  intro g3 w3 M
  replace M : Mem w [⟨g1, .cells (arr 20 (p4 5 px py pz pt)) 27⟩, ⟨g2, .cells (arr 20 (p4 5 qx qy qz qt)) 27⟩, ⟨g3, .cells (arr 20 (fun _ => 0)) 27⟩] w3 := M
  refine nt ?_
  refine wp_seq ?_
  refine sr ?_
  refine pl_load M (want_no rfl) (some 5) rfl 27 _ rfl 0 g1 0 (by kernel_rfl) 20 27 (p4 5 px py pz pt) rfl 20 (p4 5 px py pz pt) (Part.all _ _) (by decide) _ Tryz.underlying27 rfl inz27 ?_
  refine pl_call M (want_no rfl) (some 6) rfl 52 #[.agg (arr 20 (p4 5 px py pz pt))] (.bool false) (fun _ => by kernel_rfl) F.h1 ?_
  intro w4 M
  refine pv 7 (.bool false) ?_
  refine pl_load M (want_on 2 false rfl 7 rfl (by kernel_rfl)) (some 8) rfl 27 _ rfl 1 g2 0 (by kernel_rfl) 20 27 (p4 5 qx qy qz qt) rfl 20 (p4 5 qx qy qz qt) (Part.all _ _) (by decide) _ Tryz.underlying27 rfl inz27 ?_
  refine pl_call M (want_on 2 false rfl 7 rfl (by kernel_rfl)) (some 9) rfl 52 #[.agg (arr 20 (p4 5 qx qy qz qt))] (.bool false) (fun _ => by kernel_rfl) F.h2 ?_
  intro w5 M
  refine pv 10 (.bool false) ?_
  refine nt ?_
  refine wp_cond_false (by kernel_rfl) ?_
  refine wp_skip ?_
  refine au_then ?_
  refine sr ?_
  refine pl_load M (want_no rfl) (some 12) rfl 27 _ rfl 0 g1 0 (by kernel_rfl) 20 27 (p4 5 px py pz pt) rfl 20 (p4 5 px py pz pt) (Part.all _ _) (by decide) _ Tryz.underlying27 rfl inz27 ?_
  refine pl_load M (want_no rfl) (some 13) rfl 27 _ rfl 1 g2 0 (by kernel_rfl) 20 27 (p4 5 qx qy qz qt) rfl 20 (p4 5 qx qy qz qt) (Part.all _ _) (by decide) _ Tryz.underlying27 rfl inz27 ?_
  refine pl_call M (want_no rfl) (some 14) rfl 53 #[.agg (arr 20 (p4 5 px py pz pt)), .agg (arr 20 (p4 5 qx qy qz qt))] (.agg (arr 20 r1)) (fun _ => by kernel_rfl) F.h3 ?_
  intro w6 M
  refine pl_put M (want_no rfl) rfl 27 _ _ rfl 2 g3 (by kernel_rfl) 20 27 (fun _ => 0) r1 rfl (by kernel_rfl) inz27 ?_
  intro w7 M
  replace M : Mem w [⟨g1, .cells (arr 20 (p4 5 px py pz pt)) 27⟩, ⟨g2, .cells (arr 20 (p4 5 qx qy qz qt)) 27⟩, ⟨g3, .cells (arr 20 r1) 27⟩] w7 := M
  refine nt ?_
  refine wp_ret ?_
  exact bodyPost_ret (v := .agg (arr 20 r1)) (results_cell_row Tryz.results11 _ _ g3 27 (arr 20 r1) (0, 0) _ (by kernel_rfl) (M.get 2 rfl) Tryz.underlying27 rfl (by rw [arr_size]; exact inz27)) (by kernel_rfl) ⟨rfl, M.old⟩

structure negNF (px py pz pt : Nat → Int) : Prop where
  h1 : ∀ w, Calls Tryz.prog 52 #[.agg (arr 20 (p4 5 px py pz pt))] w fun r w' => r = .returned (.bool true) ∧ Below w.heap.size w w'

set_option maxRecDepth 100000 in
set_option maxHeartbeats 4000000 in
theorem negN_gen (px py pz pt : Nat → Int) (w : World) (F : negNF px py pz pt)  :
    Calls Tryz.prog 13 #[.agg (arr 20 (p4 5 px py pz pt))] w fun r w' => r = .returned (.agg (arr 20 (fun _ => 0))) ∧ Below w.heap.size w w' := by
  go_enter Tryz.func13, Tryz.ntmps13
  have M := Mem.start w
  refine sr ?_
  refine pl_new M (want_no rfl) (some 1) rfl (.cells (arr 20 (p4 5 px py pz pt)) 27) (fun _ => by kernel_rfl) ?_
  intro g1 w1 M
  replace M : Mem w [⟨g1, .cells (arr 20 (p4 5 px py pz pt)) 27⟩] w1 := M
  refine pl_new M (want_no rfl) (some 2) rfl (.cells (arr 20 (fun _ => 0)) 27) (fun _ => by kernel_rfl) ?_
  intro g2 w2 M
  replace M : Mem w [⟨g1, .cells (arr 20 (p4 5 px py pz pt)) 27⟩, ⟨g2, .cells (arr 20 (fun _ => 0)) 27⟩] w2 := M
  refine nt ?_
  refine wp_seq ?_
  refine sr ?_
  refine pl_load M (want_no rfl) (some 3) rfl 27 _ rfl 0 g1 0 (by kernel_rfl) 20 27 (p4 5 px py pz pt) rfl 20 (p4 5 px py pz pt) (Part.all _ _) (by decide) _ Tryz.underlying27 rfl inz27 ?_
  refine pl_call M (want_no rfl) (some 4) rfl 52 #[.agg (arr 20 (p4 5 px py pz pt))] (.bool true) (fun _ => by kernel_rfl) F.h1 ?_
  intro w3 M
  refine nt ?_
  refine wp_cond_true (by kernel_rfl) ?_
  refine sr ?_
  refine pv 5 (.agg (arr 20 (fun _ => 0))) ?_
  refine pl_put M (want_no rfl) rfl 27 _ _ rfl 1 g2 (by kernel_rfl) 20 27 (fun _ => 0) (fun _ => 0) rfl (by kernel_rfl) inz27 ?_
  intro w4 M
  replace M : Mem w [⟨g1, .cells (arr 20 (p4 5 px py pz pt)) 27⟩, ⟨g2, .cells (arr 20 (fun _ => 0)) 27⟩] w4 := M
  refine nt ?_
  refine wp_ret ?_
  refine au_then_ret ?_
  exact bodyPost_ret (v := .agg (arr 20 (fun _ => 0))) (results_cell_row Tryz.results13 _ _ g2 27 (arr 20 (fun _ => 0)) (0, 0) _ (by kernel_rfl) (M.get 1 rfl) Tryz.underlying27 rfl (by rw [arr_size]; exact inz27)) (by kernel_rfl) ⟨rfl, M.old⟩

structure negYF (px py pz pt r1 r2 : Nat → Int) : Prop where
  h1 : ∀ w, Calls Tryz.prog 52 #[.agg (arr 20 (p4 5 px py pz pt))] w fun r w' => r = .returned (.bool false) ∧ Below w.heap.size w w'
  h2 : ∀ w, Calls Tryz.prog 28 #[.agg (arr 5 px)] w fun r w' => r = .returned (.agg (arr 5 r1)) ∧ Below w.heap.size w w'
  h3 : ∀ w, Calls Tryz.prog 28 #[.agg (arr 5 pt)] w fun r w' => r = .returned (.agg (arr 5 r2)) ∧ Below w.heap.size w w'

set_option maxRecDepth 100000 in
set_option maxHeartbeats 4000000 in
theorem negY_gen (px py pz pt r1 r2 : Nat → Int) (w : World) (F : negYF px py pz pt r1 r2)  :
    Calls Tryz.prog 13 #[.agg (arr 20 (p4 5 px py pz pt))] w fun r w' => r = .returned (.agg (arr 20 (p4 5 r1 py pz r2))) ∧ Below w.heap.size w w' := by
  go_enter Tryz.func13, Tryz.ntmps13
  have M := Mem.start w
  refine sr ?_
  refine pl_new M (want_no rfl) (some 1) rfl (.cells (arr 20 (p4 5 px py pz pt)) 27) (fun _ => by kernel_rfl) ?_
  intro g1 w1 M
  replace M : Mem w [⟨g1, .cells (arr 20 (p4 5 px py pz pt)) 27⟩] w1 := M
  refine pl_new M (want_no rfl) (some 2) rfl (.cells (arr 20 (fun _ => 0)) 27) (fun _ => by kernel_rfl) ?_
  intro g2 w2 M
  replace M : Mem w [⟨g1, .cells (arr 20 (p4 5 px py pz pt)) 27⟩, ⟨g2, .cells (arr 20 (fun _ => 0)) 27⟩] w2 := M
  refine nt ?_
  refine wp_seq ?_
  refine sr ?_
  refine pl_load M (want_no rfl) (some 3) rfl 27 _ rfl 0 g1 0 (by kernel_rfl) 20 27 (p4 5 px py pz pt) rfl 20 (p4 5 px py pz pt) (Part.all _ _) (by decide) _ Tryz.underlying27 rfl inz27 ?_
  refine pl_call M (want_no rfl) (some 4) rfl 52 #[.agg (arr 20 (p4 5 px py pz pt))] (.bool false) (fun _ => by kernel_rfl) F.h1 ?_
  intro w3 M
  refine nt ?_
  refine wp_cond_false (by kernel_rfl) ?_
  refine wp_skip ?_
  refine au_then ?_
  refine wp_seq ?_
  refine rg_tail M 11 (by kernel_rfl) (by kernel_rfl) ?_
  simp only [List.take_succ_cons, List.take_zero]
  refine kv 6 (.pointer (some ⟨g1, 0, none⟩)) ?_
  refine k_load M (want_no rfl) (some 7) rfl 25 _ rfl 0 g1 0 (by kernel_rfl) 20 27 (p4 5 px py pz pt) rfl 5 px (p4_0 5 px py pz pt 0 rfl) (by decide) _ Tryz.underlying25 rfl inz25 ?_
  refine k_call (want_no rfl) (some 8) rfl 28 #[.agg (arr 5 px)] (.agg (arr 5 r1)) (fun _ => by kernel_rfl) F.h2 ?_
  refine kv 9 (.pointer (some ⟨g1, 5, none⟩)) ?_
  refine k_load M (want_no rfl) (some 10) rfl 25 _ rfl 0 g1 5 (by kernel_rfl) 20 27 (p4 5 px py pz pt) rfl 5 py (p4_1 5 px py pz pt 5 rfl) (by decide) _ Tryz.underlying25 rfl inz25 ?_
  refine kv 11 (.pointer (some ⟨g1, 10, none⟩)) ?_
  refine k_load M (want_no rfl) (some 12) rfl 25 _ rfl 0 g1 10 (by kernel_rfl) 20 27 (p4 5 px py pz pt) rfl 5 pz (p4_2 5 px py pz pt 10 rfl) (by decide) _ Tryz.underlying25 rfl inz25 ?_
  refine kv 13 (.pointer (some ⟨g1, 15, none⟩)) ?_
  refine k_load M (want_no rfl) (some 14) rfl 25 _ rfl 0 g1 15 (by kernel_rfl) 20 27 (p4 5 px py pz pt) rfl 5 pt (p4_3 5 px py pz pt 15 rfl) (by decide) _ Tryz.underlying25 rfl inz25 ?_
  refine k_call (want_no rfl) (some 15) rfl 28 #[.agg (arr 5 pt)] (.agg (arr 5 r2)) (fun _ => by kernel_rfl) F.h3 ?_
  refine kv 16 (.agg (arr 20 (p4 5 r1 py pz r2))) ?_
  refine kl_nil ?_
  intro w4 M
  replace M : Mem w [⟨g1, .cells (arr 20 (p4 5 px py pz pt)) 27⟩, ⟨g2, .cells (arr 20 (fun _ => 0)) 27⟩] w4 := M
  refine pl_put M (want_no rfl) rfl 27 _ _ rfl 1 g2 (by kernel_rfl) 20 27 (fun _ => 0) (p4 5 r1 py pz r2) rfl (by kernel_rfl) inz27 ?_
  intro w5 M
  replace M : Mem w [⟨g1, .cells (arr 20 (p4 5 px py pz pt)) 27⟩, ⟨g2, .cells (arr 20 (p4 5 r1 py pz r2)) 27⟩] w5 := M
  refine nt ?_
  refine wp_ret ?_
  exact bodyPost_ret (v := .agg (arr 20 (p4 5 r1 py pz r2))) (results_cell_row Tryz.results13 _ _ g2 27 (arr 20 (p4 5 r1 py pz r2)) (0, 0) _ (by kernel_rfl) (M.get 1 rfl) Tryz.underlying27 rfl (by rw [arr_size]; exact inz27)) (by kernel_rfl) ⟨rfl, M.old⟩

structure sameN1F (px py pz pt qx qy qz qt : Nat → Int) : Prop where
  h1 : ∀ w, Calls Tryz.prog 52 #[.agg (arr 20 (p4 5 px py pz pt))] w fun r w' => r = .returned (.bool true) ∧ Below w.heap.size w w'

set_option maxRecDepth 100000 in
set_option maxHeartbeats 4000000 in
theorem sameN1_gen (px py pz pt qx qy qz qt : Nat → Int) (w : World) (F : sameN1F px py pz pt qx qy qz qt)  :
    Calls Tryz.prog 17 #[.agg (arr 20 (p4 5 px py pz pt)), .agg (arr 20 (p4 5 qx qy qz qt))] w fun r w' => r = .returned (.bool false) ∧ Below w.heap.size w w' := by
  go_enter Tryz.func17, Tryz.ntmps17
  have M := Mem.start w
  refine sr ?_
  refine pl_new M (want_no rfl) (some 2) rfl (.cells (arr 20 (p4 5 px py pz pt)) 27) (fun _ => by kernel_rfl) ?_
  intro g1 w1 M
  replace M : Mem w [⟨g1, .cells (arr 20 (p4 5 px py pz pt)) 27⟩] w1 := M
  refine pl_new M (want_no rfl) (some 3) rfl (.cells (arr 20 (p4 5 qx qy qz qt)) 27) (fun _ => by kernel_rfl) ?_
  intro g2 w2 M
  replace M : Mem w [⟨g1, .cells (arr 20 (p4 5 px py pz pt)) 27⟩, ⟨g2, .cells (arr 20 (p4 5 qx qy qz qt)) 27⟩] w2 := M
  refine pv 4 (.bool false) ?_
  refine nt ?_
  refine wp_seq ?_
  refine sr ?_
  refine pl_load M (want_no rfl) (some 5) rfl 27 _ rfl 0 g1 0 (by kernel_rfl) 20 27 (p4 5 px py pz pt) rfl 20 (p4 5 px py pz pt) (Part.all _ _) (by decide) _ Tryz.underlying27 rfl inz27 ?_
  refine pl_call M (want_no rfl) (some 6) rfl 52 #[.agg (arr 20 (p4 5 px py pz pt))] (.bool true) (fun _ => by kernel_rfl) F.h1 ?_
  intro w3 M
  refine pv 7 (.bool true) ?_
  refine pl_skip (want_off 2 false rfl 7 rfl (by kernel_rfl)) (some 8) rfl ?_
  refine pl_skip (want_off 2 false rfl 7 rfl (by kernel_rfl)) (some 9) rfl ?_
  refine pv 10 (.bool true) ?_
  refine nt ?_
  refine wp_cond_true (by kernel_rfl) ?_
  refine sr ?_
  refine pv 4 (.bool false) ?_
  refine nt ?_
  refine wp_ret ?_
  refine au_then_ret ?_
  exact bodyPost_ret (v := .bool false) (results_tmp1 Tryz.results17 _ _ _ (by kernel_rfl)) (by kernel_rfl) ⟨rfl, M.old⟩

structure sameN2F (px py pz pt qx qy qz qt : Nat → Int) : Prop where
  h1 : ∀ w, Calls Tryz.prog 52 #[.agg (arr 20 (p4 5 px py pz pt))] w fun r w' => r = .returned (.bool false) ∧ Below w.heap.size w w'
  h2 : ∀ w, Calls Tryz.prog 52 #[.agg (arr 20 (p4 5 qx qy qz qt))] w fun r w' => r = .returned (.bool true) ∧ Below w.heap.size w w'

set_option maxRecDepth 100000 in
set_option maxHeartbeats 4000000 in
theorem sameN2_gen (px py pz pt qx qy qz qt : Nat → Int) (w : World) (F : sameN2F px py pz pt qx qy qz qt)  :
    Calls Tryz.prog 17 #[.agg (arr 20 (p4 5 px py pz pt)), .agg (arr 20 (p4 5 qx qy qz qt))] w fun r w' => r = .returned (.bool false) ∧ Below w.heap.size w w' := by
  go_enter Tryz.func17, Tryz.ntmps17
  have M := Mem.start w
  refine sr ?_
  refine pl_new M (want_no rfl) (some 2) rfl (.cells (arr 20 (p4 5 px py pz pt)) 27) (fun _ => by kernel_rfl) ?_
  intro g1 w1 M
  replace M : Mem w [⟨g1, .cells (arr 20 (p4 5 px py pz pt)) 27⟩] w1 := M
  refine pl_new M (want_no rfl) (some 3) rfl (.cells (arr 20 (p4 5 qx qy qz qt)) 27) (fun _ => by kernel_rfl) ?_
  intro g2 w2 M
  replace M : Mem w [⟨g1, .cells (arr 20 (p4 5 px py pz pt)) 27⟩, ⟨g2, .cells (arr 20 (p4 5 qx qy qz qt)) 27⟩] w2 := M
  refine pv 4 (.bool false) ?_
  refine nt ?_
  refine wp_seq ?_
  refine sr ?_
  refine pl_load M (want_no rfl) (some 5) rfl 27 _ rfl 0 g1 0 (by kernel_rfl) 20 27 (p4 5 px py pz pt) rfl 20 (p4 5 px py pz pt) (Part.all _ _) (by decide) _ Tryz.underlying27 rfl inz27 ?_
  refine pl_call M (want_no rfl) (some 6) rfl 52 #[.agg (arr 20 (p4 5 px py pz pt))] (.bool false) (fun _ => by kernel_rfl) F.h1 ?_
  intro w3 M
  refine pv 7 (.bool false) ?_
  refine pl_load M (want_on 2 false rfl 7 rfl (by kernel_rfl)) (some 8) rfl 27 _ rfl 1 g2 0 (by kernel_rfl) 20 27 (p4 5 qx qy qz qt) rfl 20 (p4 5 qx qy qz qt) (Part.all _ _) (by decide) _ Tryz.underlying27 rfl inz27 ?_
  refine pl_call M (want_on 2 false rfl 7 rfl (by kernel_rfl)) (some 9) rfl 52 #[.agg (arr 20 (p4 5 qx qy qz qt))] (.bool true) (fun _ => by kernel_rfl) F.h2 ?_
  intro w4 M
  refine pv 10 (.bool true) ?_
  refine nt ?_
  refine wp_cond_true (by kernel_rfl) ?_
  refine sr ?_
  refine pv 4 (.bool false) ?_
  refine nt ?_
  refine wp_ret ?_
  refine au_then_ret ?_
  exact bodyPost_ret (v := .bool false) (results_tmp1 Tryz.results17 _ _ _ (by kernel_rfl)) (by kernel_rfl) ⟨rfl, M.old⟩

structure sameFF (px py pz pt qx qy qz qt r1 r2 : Nat → Int) : Prop where
  h1 : ∀ w, Calls Tryz.prog 52 #[.agg (arr 20 (p4 5 px py pz pt))] w fun r w' => r = .returned (.bool false) ∧ Below w.heap.size w w'
  h2 : ∀ w, Calls Tryz.prog 52 #[.agg (arr 20 (p4 5 qx qy qz qt))] w fun r w' => r = .returned (.bool false) ∧ Below w.heap.size w w'
  h3 : ∀ w, Calls Tryz.prog 59 #[.agg (arr 5 px), .agg (arr 5 qz)] w fun r w' => r = .returned (.agg (arr 5 r1)) ∧ Below w.heap.size w w'
  h4 : ∀ w, Calls Tryz.prog 59 #[.agg (arr 5 qx), .agg (arr 5 pz)] w fun r w' => r = .returned (.agg (arr 5 r2)) ∧ Below w.heap.size w w'
  h5 : ∀ w, Calls Tryz.prog 60 #[.agg (arr 5 r1), .agg (arr 5 r2)] w fun r w' => r = .returned (.bool false) ∧ Below w.heap.size w w'

set_option maxRecDepth 100000 in
set_option maxHeartbeats 4000000 in
theorem sameF_gen (px py pz pt qx qy qz qt r1 r2 : Nat → Int) (w : World) (F : sameFF px py pz pt qx qy qz qt r1 r2)  :
    Calls Tryz.prog 17 #[.agg (arr 20 (p4 5 px py pz pt)), .agg (arr 20 (p4 5 qx qy qz qt))] w fun r w' => r = .returned (.bool false) ∧ Below w.heap.size w w' := by
  go_enter Tryz.func17, Tryz.ntmps17
  have M := Mem.start w
  refine sr ?_
  refine pl_new M (want_no rfl) (some 2) rfl (.cells (arr 20 (p4 5 px py pz pt)) 27) (fun _ => by kernel_rfl) ?_
  intro g1 w1 M
  replace M : Mem w [⟨g1, .cells (arr 20 (p4 5 px py pz pt)) 27⟩] w1 := M
  refine pl_new M (want_no rfl) (some 3) rfl (.cells (arr 20 (p4 5 qx qy qz qt)) 27) (fun _ => by kernel_rfl) ?_
  intro g2 w2 M
  replace M : Mem w [⟨g1, .cells (arr 20 (p4 5 px py pz pt)) 27⟩, ⟨g2, .cells (arr 20 (p4 5 qx qy qz qt)) 27⟩] w2 := M
  refine pv 4 (.bool false) ?_
  refine nt ?_
  refine wp_seq ?_
  refine sr ?_
  refine pl_load M (want_no rfl) (some 5) rfl 27 _ rfl 0 g1 0 (by kernel_rfl) 20 27 (p4 5 px py pz pt) rfl 20 (p4 5 px py pz pt) (Part.all _ _) (by decide) _ Tryz.underlying27 rfl inz27 ?_
  refine pl_call M (want_no rfl) (some 6) rfl 52 #[.agg (arr 20 (p4 5 px py pz pt))] (.bool false) (fun _ => by kernel_rfl) F.h1 ?_
  intro w3 M
  refine pv 7 (.bool false) ?_
  refine pl_load M (want_on 2 false rfl 7 rfl (by kernel_rfl)) (some 8) rfl 27 _ rfl 1 g2 0 (by kernel_rfl) 20 27 (p4 5 qx qy qz qt) rfl 20 (p4 5 qx qy qz qt) (Part.all _ _) (by decide) _ Tryz.underlying27 rfl inz27 ?_
  refine pl_call M (want_on 2 false rfl 7 rfl (by kernel_rfl)) (some 9) rfl 52 #[.agg (arr 20 (p4 5 qx qy qz qt))] (.bool false) (fun _ => by kernel_rfl) F.h2 ?_
  intro w4 M
  refine pv 10 (.bool false) ?_
  refine nt ?_
  refine wp_cond_false (by kernel_rfl) ?_
  refine wp_skip ?_
  refine au_then ?_
  refine wp_seq ?_
  refine rg_tail M 24 (by kernel_rfl) (by kernel_rfl) ?_
  simp only [List.take_succ_cons, List.take_zero]
  refine kv 11 (.pointer (some ⟨g1, 0, none⟩)) ?_
  refine k_load M (want_no rfl) (some 12) rfl 25 _ rfl 0 g1 0 (by kernel_rfl) 20 27 (p4 5 px py pz pt) rfl 5 px (p4_0 5 px py pz pt 0 rfl) (by decide) _ Tryz.underlying25 rfl inz25 ?_
  refine kv 13 (.pointer (some ⟨g2, 10, none⟩)) ?_
  refine k_load M (want_no rfl) (some 14) rfl 25 _ rfl 1 g2 10 (by kernel_rfl) 20 27 (p4 5 qx qy qz qt) rfl 5 qz (p4_2 5 qx qy qz qt 10 rfl) (by decide) _ Tryz.underlying25 rfl inz25 ?_
  refine k_call (want_no rfl) (some 15) rfl 59 #[.agg (arr 5 px), .agg (arr 5 qz)] (.agg (arr 5 r1)) (fun _ => by kernel_rfl) F.h3 ?_
  refine kv 16 (.pointer (some ⟨g2, 0, none⟩)) ?_
  refine k_load M (want_no rfl) (some 17) rfl 25 _ rfl 1 g2 0 (by kernel_rfl) 20 27 (p4 5 qx qy qz qt) rfl 5 qx (p4_0 5 qx qy qz qt 0 rfl) (by decide) _ Tryz.underlying25 rfl inz25 ?_
  refine kv 18 (.pointer (some ⟨g1, 10, none⟩)) ?_
  refine k_load M (want_no rfl) (some 19) rfl 25 _ rfl 0 g1 10 (by kernel_rfl) 20 27 (p4 5 px py pz pt) rfl 5 pz (p4_2 5 px py pz pt 10 rfl) (by decide) _ Tryz.underlying25 rfl inz25 ?_
  refine k_call (want_no rfl) (some 20) rfl 59 #[.agg (arr 5 qx), .agg (arr 5 pz)] (.agg (arr 5 r2)) (fun _ => by kernel_rfl) F.h4 ?_
  refine k_call (want_no rfl) (some 21) rfl 60 #[.agg (arr 5 r1), .agg (arr 5 r2)] (.bool false) (fun _ => by kernel_rfl) F.h5 ?_
  refine kv 22 (.bool false) ?_
  refine k_skip (want_off 11 true rfl 22 rfl (by kernel_rfl)) (some 23) rfl ?_
  refine k_skip (want_off 11 true rfl 22 rfl (by kernel_rfl)) (some 24) rfl ?_
  refine k_skip (want_off 11 true rfl 22 rfl (by kernel_rfl)) (some 25) rfl ?_
  refine k_skip (want_off 11 true rfl 22 rfl (by kernel_rfl)) (some 26) rfl ?_
  refine k_skip (want_off 11 true rfl 22 rfl (by kernel_rfl)) (some 27) rfl ?_
  refine k_skip (want_off 11 true rfl 22 rfl (by kernel_rfl)) (some 28) rfl ?_
  refine k_skip (want_off 11 true rfl 22 rfl (by kernel_rfl)) (some 29) rfl ?_
  refine k_skip (want_off 11 true rfl 22 rfl (by kernel_rfl)) (some 30) rfl ?_
  refine k_skip (want_off 11 true rfl 22 rfl (by kernel_rfl)) (some 31) rfl ?_
  refine k_skip (want_off 11 true rfl 22 rfl (by kernel_rfl)) (some 32) rfl ?_
  refine k_skip (want_off 11 true rfl 22 rfl (by kernel_rfl)) (some 33) rfl ?_
  refine kv 34 (.bool false) ?_
  refine kl_nil ?_
  intro w5 M
  replace M : Mem w [⟨g1, .cells (arr 20 (p4 5 px py pz pt)) 27⟩, ⟨g2, .cells (arr 20 (p4 5 qx qy qz qt)) 27⟩] w5 := M
  refine pv 4 (.bool false) ?_
  refine nt ?_
  refine wp_ret ?_
  exact bodyPost_ret (v := .bool false) (results_tmp1 Tryz.results17 _ _ _ (by kernel_rfl)) (by kernel_rfl) ⟨rfl, M.old⟩

structure sameTF (px py pz pt qx qy qz qt r1 r2 r3 r4 : Nat → Int) (b5 : Bool) : Prop where
  h1 : ∀ w, Calls Tryz.prog 52 #[.agg (arr 20 (p4 5 px py pz pt))] w fun r w' => r = .returned (.bool false) ∧ Below w.heap.size w w'
  h2 : ∀ w, Calls Tryz.prog 52 #[.agg (arr 20 (p4 5 qx qy qz qt))] w fun r w' => r = .returned (.bool false) ∧ Below w.heap.size w w'
  h3 : ∀ w, Calls Tryz.prog 59 #[.agg (arr 5 px), .agg (arr 5 qz)] w fun r w' => r = .returned (.agg (arr 5 r1)) ∧ Below w.heap.size w w'
  h4 : ∀ w, Calls Tryz.prog 59 #[.agg (arr 5 qx), .agg (arr 5 pz)] w fun r w' => r = .returned (.agg (arr 5 r2)) ∧ Below w.heap.size w w'
  h5 : ∀ w, Calls Tryz.prog 60 #[.agg (arr 5 r1), .agg (arr 5 r2)] w fun r w' => r = .returned (.bool true) ∧ Below w.heap.size w w'
  h6 : ∀ w, Calls Tryz.prog 59 #[.agg (arr 5 py), .agg (arr 5 qz)] w fun r w' => r = .returned (.agg (arr 5 r3)) ∧ Below w.heap.size w w'
  h7 : ∀ w, Calls Tryz.prog 59 #[.agg (arr 5 qy), .agg (arr 5 pz)] w fun r w' => r = .returned (.agg (arr 5 r4)) ∧ Below w.heap.size w w'
  h8 : ∀ w, Calls Tryz.prog 60 #[.agg (arr 5 r3), .agg (arr 5 r4)] w fun r w' => r = .returned (.bool b5) ∧ Below w.heap.size w w'

set_option maxRecDepth 100000 in
set_option maxHeartbeats 4000000 in
theorem sameT_gen (px py pz pt qx qy qz qt r1 r2 r3 r4 : Nat → Int) (b5 : Bool) (w : World) (F : sameTF px py pz pt qx qy qz qt r1 r2 r3 r4 b5)  :
    Calls Tryz.prog 17 #[.agg (arr 20 (p4 5 px py pz pt)), .agg (arr 20 (p4 5 qx qy qz qt))] w fun r w' => r = .returned (.bool b5) ∧ Below w.heap.size w w' := by
  go_enter Tryz.func17, Tryz.ntmps17
  have M := Mem.start w
  refine sr ?_
  refine pl_new M (want_no rfl) (some 2) rfl (.cells (arr 20 (p4 5 px py pz pt)) 27) (fun _ => by kernel_rfl) ?_
  intro g1 w1 M
  replace M : Mem w [⟨g1, .cells (arr 20 (p4 5 px py pz pt)) 27⟩] w1 := M
  refine pl_new M (want_no rfl) (some 3) rfl (.cells (arr 20 (p4 5 qx qy qz qt)) 27) (fun _ => by kernel_rfl) ?_
  intro g2 w2 M
  replace M : Mem w [⟨g1, .cells (arr 20 (p4 5 px py pz pt)) 27⟩, ⟨g2, .cells (arr 20 (p4 5 qx qy qz qt)) 27⟩] w2 := M
  refine pv 4 (.bool false) ?_
  refine nt ?_
  refine wp_seq ?_
  refine sr ?_
  refine pl_load M (want_no rfl) (some 5) rfl 27 _ rfl 0 g1 0 (by kernel_rfl) 20 27 (p4 5 px py pz pt) rfl 20 (p4 5 px py pz pt) (Part.all _ _) (by decide) _ Tryz.underlying27 rfl inz27 ?_
  refine pl_call M (want_no rfl) (some 6) rfl 52 #[.agg (arr 20 (p4 5 px py pz pt))] (.bool false) (fun _ => by kernel_rfl) F.h1 ?_
  intro w3 M
  refine pv 7 (.bool false) ?_
  refine pl_load M (want_on 2 false rfl 7 rfl (by kernel_rfl)) (some 8) rfl 27 _ rfl 1 g2 0 (by kernel_rfl) 20 27 (p4 5 qx qy qz qt) rfl 20 (p4 5 qx qy qz qt) (Part.all _ _) (by decide) _ Tryz.underlying27 rfl inz27 ?_
  refine pl_call M (want_on 2 false rfl 7 rfl (by kernel_rfl)) (some 9) rfl 52 #[.agg (arr 20 (p4 5 qx qy qz qt))] (.bool false) (fun _ => by kernel_rfl) F.h2 ?_
  intro w4 M
  refine pv 10 (.bool false) ?_
  refine nt ?_
  refine wp_cond_false (by kernel_rfl) ?_
  refine wp_skip ?_
  refine au_then ?_
  refine wp_seq ?_
  refine rg_tail M 24 (by kernel_rfl) (by kernel_rfl) ?_
  simp only [List.take_succ_cons, List.take_zero]
  refine kv 11 (.pointer (some ⟨g1, 0, none⟩)) ?_
  refine k_load M (want_no rfl) (some 12) rfl 25 _ rfl 0 g1 0 (by kernel_rfl) 20 27 (p4 5 px py pz pt) rfl 5 px (p4_0 5 px py pz pt 0 rfl) (by decide) _ Tryz.underlying25 rfl inz25 ?_
  refine kv 13 (.pointer (some ⟨g2, 10, none⟩)) ?_
  refine k_load M (want_no rfl) (some 14) rfl 25 _ rfl 1 g2 10 (by kernel_rfl) 20 27 (p4 5 qx qy qz qt) rfl 5 qz (p4_2 5 qx qy qz qt 10 rfl) (by decide) _ Tryz.underlying25 rfl inz25 ?_
  refine k_call (want_no rfl) (some 15) rfl 59 #[.agg (arr 5 px), .agg (arr 5 qz)] (.agg (arr 5 r1)) (fun _ => by kernel_rfl) F.h3 ?_
  refine kv 16 (.pointer (some ⟨g2, 0, none⟩)) ?_
  refine k_load M (want_no rfl) (some 17) rfl 25 _ rfl 1 g2 0 (by kernel_rfl) 20 27 (p4 5 qx qy qz qt) rfl 5 qx (p4_0 5 qx qy qz qt 0 rfl) (by decide) _ Tryz.underlying25 rfl inz25 ?_
  refine kv 18 (.pointer (some ⟨g1, 10, none⟩)) ?_
  refine k_load M (want_no rfl) (some 19) rfl 25 _ rfl 0 g1 10 (by kernel_rfl) 20 27 (p4 5 px py pz pt) rfl 5 pz (p4_2 5 px py pz pt 10 rfl) (by decide) _ Tryz.underlying25 rfl inz25 ?_
  refine k_call (want_no rfl) (some 20) rfl 59 #[.agg (arr 5 qx), .agg (arr 5 pz)] (.agg (arr 5 r2)) (fun _ => by kernel_rfl) F.h4 ?_
  refine k_call (want_no rfl) (some 21) rfl 60 #[.agg (arr 5 r1), .agg (arr 5 r2)] (.bool true) (fun _ => by kernel_rfl) F.h5 ?_
  refine kv 22 (.bool true) ?_
  refine k_val (want_on 11 true rfl 22 rfl (by kernel_rfl)) (some 23) rfl (.pointer (some ⟨g1, 5, none⟩)) (fun _ => by kernel_rfl) ?_
  refine k_load M (want_on 11 true rfl 22 rfl (by kernel_rfl)) (some 24) rfl 25 _ rfl 0 g1 5 (by kernel_rfl) 20 27 (p4 5 px py pz pt) rfl 5 py (p4_1 5 px py pz pt 5 rfl) (by decide) _ Tryz.underlying25 rfl inz25 ?_
  refine k_val (want_on 11 true rfl 22 rfl (by kernel_rfl)) (some 25) rfl (.pointer (some ⟨g2, 10, none⟩)) (fun _ => by kernel_rfl) ?_
  refine k_load M (want_on 11 true rfl 22 rfl (by kernel_rfl)) (some 26) rfl 25 _ rfl 1 g2 10 (by kernel_rfl) 20 27 (p4 5 qx qy qz qt) rfl 5 qz (p4_2 5 qx qy qz qt 10 rfl) (by decide) _ Tryz.underlying25 rfl inz25 ?_
  refine k_call (want_on 11 true rfl 22 rfl (by kernel_rfl)) (some 27) rfl 59 #[.agg (arr 5 py), .agg (arr 5 qz)] (.agg (arr 5 r3)) (fun _ => by kernel_rfl) F.h6 ?_
  refine k_val (want_on 11 true rfl 22 rfl (by kernel_rfl)) (some 28) rfl (.pointer (some ⟨g2, 5, none⟩)) (fun _ => by kernel_rfl) ?_
  refine k_load M (want_on 11 true rfl 22 rfl (by kernel_rfl)) (some 29) rfl 25 _ rfl 1 g2 5 (by kernel_rfl) 20 27 (p4 5 qx qy qz qt) rfl 5 qy (p4_1 5 qx qy qz qt 5 rfl) (by decide) _ Tryz.underlying25 rfl inz25 ?_
  refine k_val (want_on 11 true rfl 22 rfl (by kernel_rfl)) (some 30) rfl (.pointer (some ⟨g1, 10, none⟩)) (fun _ => by kernel_rfl) ?_
  refine k_load M (want_on 11 true rfl 22 rfl (by kernel_rfl)) (some 31) rfl 25 _ rfl 0 g1 10 (by kernel_rfl) 20 27 (p4 5 px py pz pt) rfl 5 pz (p4_2 5 px py pz pt 10 rfl) (by decide) _ Tryz.underlying25 rfl inz25 ?_
  refine k_call (want_on 11 true rfl 22 rfl (by kernel_rfl)) (some 32) rfl 59 #[.agg (arr 5 qy), .agg (arr 5 pz)] (.agg (arr 5 r4)) (fun _ => by kernel_rfl) F.h7 ?_
  refine k_call (want_on 11 true rfl 22 rfl (by kernel_rfl)) (some 33) rfl 60 #[.agg (arr 5 r3), .agg (arr 5 r4)] (.bool b5) (fun _ => by kernel_rfl) F.h8 ?_
  refine kv 34 (.bool b5) ?_
  refine kl_nil ?_
  intro w5 M
  replace M : Mem w [⟨g1, .cells (arr 20 (p4 5 px py pz pt)) 27⟩, ⟨g2, .cells (arr 20 (p4 5 qx qy qz qt)) 27⟩] w5 := M
  refine pv 4 (.bool b5) ?_
  refine nt ?_
  refine wp_ret ?_
  exact bodyPost_ret (v := .bool b5) (results_tmp1 Tryz.results17 _ _ _ (by kernel_rfl)) (by kernel_rfl) ⟨rfl, M.old⟩

structure smallNF (px py pz pt : Nat → Int) : Prop where
  h1 : ∀ w, Calls Tryz.prog 52 #[.agg (arr 20 (p4 5 px py pz pt))] w fun r w' => r = .returned (.bool true) ∧ Below w.heap.size w w'

set_option maxRecDepth 100000 in
set_option maxHeartbeats 4000000 in
theorem smallN_gen (px py pz pt : Nat → Int) (w : World) (F : smallNF px py pz pt)  :
    Calls Tryz.prog 34 #[.agg (arr 20 (p4 5 px py pz pt))] w fun r w' => r = .returned (.bool false) ∧ Below w.heap.size w w' := by
  go_enter Tryz.func34, Tryz.ntmps34
  have M := Mem.start w
  refine sr ?_
  refine pl_new M (want_no rfl) (some 1) rfl (.cells (arr 20 (p4 5 px py pz pt)) 27) (fun _ => by kernel_rfl) ?_
  intro g1 w1 M
  replace M : Mem w [⟨g1, .cells (arr 20 (p4 5 px py pz pt)) 27⟩] w1 := M
  refine pv 2 (.bool false) ?_
  refine nt ?_
  refine sr ?_
  refine pl_load M (want_no rfl) (some 3) rfl 27 _ rfl 0 g1 0 (by kernel_rfl) 20 27 (p4 5 px py pz pt) rfl 20 (p4 5 px py pz pt) (Part.all _ _) (by decide) _ Tryz.underlying27 rfl inz27 ?_
  refine pl_call M (want_no rfl) (some 4) rfl 52 #[.agg (arr 20 (p4 5 px py pz pt))] (.bool true) (fun _ => by kernel_rfl) F.h1 ?_
  intro w2 M
  refine pv 5 (.bool false) ?_
  refine pv 6 (.bool false) ?_
  refine pl_skip (want_off 3 true rfl 6 rfl (by kernel_rfl)) (some 7) rfl ?_
  refine pl_skip (want_off 3 true rfl 6 rfl (by kernel_rfl)) (some 8) rfl ?_
  refine pl_skip (want_off 3 true rfl 6 rfl (by kernel_rfl)) (some 9) rfl ?_
  refine pl_skip (want_off 3 true rfl 6 rfl (by kernel_rfl)) (some 10) rfl ?_
  refine pv 11 (.bool false) ?_
  refine pv 2 (.bool false) ?_
  refine nt ?_
  refine wp_ret ?_
  exact bodyPost_ret (v := .bool false) (results_tmp1 Tryz.results34 _ _ _ (by kernel_rfl)) (by kernel_rfl) ⟨rfl, M.old⟩

structure smallYF (px py pz pt r1 r2 : Nat → Int) (b3 : Bool) : Prop where
  h1 : ∀ w, Calls Tryz.prog 52 #[.agg (arr 20 (p4 5 px py pz pt))] w fun r w' => r = .returned (.bool false) ∧ Below w.heap.size w w'
  h2 : ∀ w, Calls Tryz.prog 57 #[.agg (arr 20 (p4 5 px py pz pt)), .int .i64 3] w fun r w' => r = .returned (.agg (arr 20 r1)) ∧ Below w.heap.size w w'
  h3 : ∀ w, Calls Tryz.prog 19 #[] w fun r w' => r = .returned (.agg (arr 20 r2)) ∧ Below w.heap.size w w'
  h4 : ∀ w, Calls Tryz.prog 17 #[.agg (arr 20 r1), .agg (arr 20 r2)] w fun r w' => r = .returned (.bool b3) ∧ Below w.heap.size w w'

set_option maxRecDepth 100000 in
set_option maxHeartbeats 4000000 in
theorem smallY_gen (px py pz pt r1 r2 : Nat → Int) (b3 : Bool) (w : World) (F : smallYF px py pz pt r1 r2 b3)  :
    Calls Tryz.prog 34 #[.agg (arr 20 (p4 5 px py pz pt))] w fun r w' => r = .returned (.bool b3) ∧ Below w.heap.size w w' := by
  go_enter Tryz.func34, Tryz.ntmps34
  have M := Mem.start w
  refine sr ?_
  refine pl_new M (want_no rfl) (some 1) rfl (.cells (arr 20 (p4 5 px py pz pt)) 27) (fun _ => by kernel_rfl) ?_
  intro g1 w1 M
  replace M : Mem w [⟨g1, .cells (arr 20 (p4 5 px py pz pt)) 27⟩] w1 := M
  refine pv 2 (.bool false) ?_
  refine nt ?_
  refine sr ?_
  refine pl_load M (want_no rfl) (some 3) rfl 27 _ rfl 0 g1 0 (by kernel_rfl) 20 27 (p4 5 px py pz pt) rfl 20 (p4 5 px py pz pt) (Part.all _ _) (by decide) _ Tryz.underlying27 rfl inz27 ?_
  refine pl_call M (want_no rfl) (some 4) rfl 52 #[.agg (arr 20 (p4 5 px py pz pt))] (.bool false) (fun _ => by kernel_rfl) F.h1 ?_
  intro w2 M
  refine pv 5 (.bool true) ?_
  refine pv 6 (.bool true) ?_
  refine pl_load M (want_on 3 true rfl 6 rfl (by kernel_rfl)) (some 7) rfl 27 _ rfl 0 g1 0 (by kernel_rfl) 20 27 (p4 5 px py pz pt) rfl 20 (p4 5 px py pz pt) (Part.all _ _) (by decide) _ Tryz.underlying27 rfl inz27 ?_
  refine pl_call M (want_on 3 true rfl 6 rfl (by kernel_rfl)) (some 8) rfl 57 #[.agg (arr 20 (p4 5 px py pz pt)), .int .i64 3] (.agg (arr 20 r1)) (fun _ => by kernel_rfl) F.h2 ?_
  intro w3 M
  refine pl_call M (want_on 3 true rfl 6 rfl (by kernel_rfl)) (some 9) rfl 19 #[] (.agg (arr 20 r2)) (fun _ => by kernel_rfl) F.h3 ?_
  intro w4 M
  refine pl_call M (want_on 3 true rfl 6 rfl (by kernel_rfl)) (some 10) rfl 17 #[.agg (arr 20 r1), .agg (arr 20 r2)] (.bool b3) (fun _ => by kernel_rfl) F.h4 ?_
  intro w5 M
  refine pv 11 (.bool b3) ?_
  refine pv 2 (.bool b3) ?_
  refine nt ?_
  refine wp_ret ?_
  exact bodyPost_ret (v := .bool b3) (results_tmp1 Tryz.results34 _ _ _ (by kernel_rfl)) (by kernel_rfl) ⟨rfl, M.old⟩


end Go.Proofs.YtkeocdebfgcnnaaGreat

/- The contract of Canonical: which bytes are a number's below the prime. -/
namespace Go.Proofs.YtkeocdebfgcnnaaGreat
open Go.RowKit

theorem by16_bd (f : Nat → Int) (i : Nat) : 0 ≤ by16 f i ∧ by16 f i < 256 := by unfold by16; omega

theorem by16_pt (s : ByteArray) (i : Nat) (hi : i < 32) : by16 (pt s 32) i = bt s i := by
  have hc : (∃ j, i = 2 * j) ∨ ∃ j, i = 2 * j + 1 := by
    have : i % 2 = 0 ∨ i % 2 = 1 := by omega
    rcases this with h | h
    · exact .inl ⟨i / 2, by omega⟩
    · exact .inr ⟨i / 2, by omega⟩
  rcases hc with ⟨j, rfl⟩ | ⟨j, rfl⟩
  · have h0 := bt_bd s (2 * j)
    have h1 := bt_bd s (2 * j + 1)
    unfold by16 pt
    rw [show 2 * j / 2 = j by omega, show 2 * j % 2 = 0 by omega, if_pos (by omega), if_pos (by omega)]
    simp
    omega
  · have h0 := bt_bd s (2 * j)
    have h1 := bt_bd s (2 * j + 1)
    unfold by16 pt
    rw [show (2 * j + 1) / 2 = j by omega, show (2 * j + 1) % 2 = 1 by omega, if_pos (by omega), if_pos (by omega)]
    simp
    omega

theorem rb_get (f : Nat → Int) (i : Nat) (hi : i < 32) : (rb f 32)[i]? = some (by16 f i) := by
  simp [rb, hi]

theorem bs_get (l : List Int) (i : Nat) : (bs l).data[i]? = l[i]?.map fun n => UInt8.ofNat n.toNat := by
  simp [bs]

theorem rb_val (s : ByteArray) (hs : s.size = 32) : bs (rb (pt s 32) 32) = s := by
  have hd : (bs (rb (pt s 32) 32)).data = s.data := by
    apply Array.ext_getElem?
    intro i
    rw [bs_get]
    have hs' : s.data.size = 32 := hs
    by_cases hi : i < 32
    · rw [rb_get _ i hi, by16_pt s i hi, Array.getElem?_eq_getElem (by omega)]
      simp only [Option.map_some, bt]
      rw [Array.getElem?_eq_getElem (by omega)]
      simp
    · rw [List.getElem?_eq_none (by rw [rb_len]; omega), Array.getElem?_eq_none (by omega)]
      rfl
  cases s
  unfold bs at *
  simp only at hd
  rw [hd]

theorem u8_inj {a b : Int} (ha : 0 ≤ a ∧ a < 256) (hb : 0 ≤ b ∧ b < 256) (h : UInt8.ofNat a.toNat = UInt8.ofNat b.toNat) : a = b := by
  have h2 := congrArg UInt8.toNat h
  simp only [UInt8.toNat_ofNat'] at h2
  omega

theorem rb_inj {f g : Nat → Int} (hf : Dig f 16) (hg : Dig g 16) (h : bs (rb f 32) = bs (rb g 32)) : S f 16 = S g 16 := by
  have hb : ∀ i, i < 32 → by16 f i = by16 g i := fun i hi => by
    have e := congrArg (fun s : ByteArray => s.data[i]?) h
    simp only [bs_get, rb_get _ i hi, Option.map_some, Option.some.injEq] at e
    exact u8_inj (by16_bd f i) (by16_bd g i) e
  refine S_congr fun j hj => ?_
  have a := hf j hj
  have b := hg j hj
  have h0 := hb (2 * j) (by omega)
  have h1 := hb (2 * j + 1) (by omega)
  unfold by16 at h0 h1
  rw [show 2 * j / 2 = j by omega, show 2 * j % 2 = 0 by omega] at h0
  rw [show (2 * j + 1) / 2 = j by omega, show (2 * j + 1) % 2 = 1 by omega] at h1
  simp at h0 h1
  omega

theorem canonR (s : ByteArray) (hs : s.size = 32) : ((lebytes ((ofF s).n % Pm)).toList == s.toList) = decide (val s < Pm) := by
  have hC := (ofF_n s).emod
  rw [hC]
  have hN0 : 0 ≤ val s % Pm := Int.emod_nonneg _ (by decide)
  have hN1 : val s % Pm < Pm := Int.emod_lt_of_pos _ (by decide)
  have hP : Pm < 65536 ^ 16 := by decide
  have e1 : S (d16 (val s % Pm)) 16 = val s % Pm := by rw [d16_S _ hN0, Int.emod_eq_of_lt hN0 (by omega)]
  have e2 : lebytes (val s % Pm) = bs (rb (d16 (val s % Pm)) 32) := by rw [← lebytes_S (d16_dig _ 16), e1]
  rw [Bool.eq_iff_iff, beq_iff_eq, decide_eq_true_eq]
  constructor
  · intro h
    have h' : lebytes (val s % Pm) = s := by
      rw [ByteArray.toList_eq, ByteArray.toList_eq] at h
      have h3 : (lebytes (val s % Pm)).data = s.data := Array.toList_inj.1 h
      generalize lebytes (val s % Pm) = L at *
      cases L
      cases s
      simp only at h3
      rw [h3]
    rw [e2] at h'
    have h4 := rb_inj (d16_dig _ 16) (pt_dig s 32) (h'.trans (rb_val s hs).symm)
    rw [e1, pt_S] at h4
    omega
  · intro h
    have hv : 0 ≤ val s := by rw [← pt_S]; exact (S_bd (pt_dig s 32)).1
    rw [Int.emod_eq_of_lt hv h, ← pt_S, lebytes_S (pt_dig s 32), rb_val s hs]

set_option maxRecDepth 100000 in
set_option maxHeartbeats 1000000 in
theorem canon_yes (s : ByteArray) (w : World) (hs : s.size = 32) :
    Calls Tryz.prog 25 #[.string s] w fun r w' => r = .returned (.bool (decide (val s < Pm))) ∧ Below w.heap.size w w' := by
  have HR := hide (canonR s hs)
  go_enter Tryz.func25, Tryz.ntmps25
  go_wp2_with fail
  refine (of_yes s _ hs).mono ?_
  rintro _ w1 ⟨rfl, O⟩
  have kx := ofF_ok s
  generalize ofF s = x at *
  have O' := hide (O.trans ((new_below w1 (.cells #[.int .u64 x.a, .int .u64 x.b, .int .u64 x.c, .int .u64 x.d, .int .u64 x.e] 25)).mono O.size))
  clear O
  go_wp2_with fail
  refine (bytes_any x _ kx).mono ?_
  rintro _ w2 ⟨rfl, hb⟩
  have O := O'.out.trans (hb.mono O'.out.size)
  clear hb O'
  generalize lebytes (x.n % Pm) = B at *
  generalize hd : decide (val s < Pm) = d at *
  have HD := hide hd
  clear hd
  have e := HR.out
  clear HR
  go_wp2
  go_ret
  exact ⟨by rw [HD.out]; rfl, O⟩

end Go.Proofs.YtkeocdebfgcnnaaGreat

/- What strings.Repeat hands back of one byte, 31 times. -/
namespace Go.Proofs.YtkeocdebfgcnnaaGreat
open Go.Shelf Go.RowKit
def repRen : Go.Shelf.Ren := ⟨fun | 105 => 62 | 212 => 93 | 99 => 94 | 165 => 95 | 166 => 96 | 170 => 97 | 169 => 98 | 263 => 109 | 264 => 108 | 206 => 110 | 240 => 111 | 241 => 112 | 276 => 115 | 277 => 116 | n => n, fun | 9 => 9 | 3 => 3 | 4 => 4 | 20 => 20 | 0 => 0 | 46 => 72 | 109 => 114 | 5 => 5 | 72 => 119 | 76 => 123 | 51 => 75 | 146 => 133 | 53 => 22 | 148 => 126 | 70 => 117 | 37 => 70 | 75 => 122 | 127 => 135 | 164 => 136 | 80 => 71 | n => n, fun | n => n⟩
theorem repLays : Go.Proofs.Lays.n105 Tryz.prog repRen := {
  mixed := by kernel_rfl
  f99 := Tryz.func94.trans (congrArg some (by kernel_rfl))
  f105 := Tryz.func62.trans (congrArg some (by kernel_rfl))
  f165 := Tryz.func95.trans (congrArg some (by kernel_rfl))
  f166 := Tryz.func96.trans (congrArg some (by kernel_rfl))
  f169 := Tryz.func98.trans (congrArg some (by kernel_rfl))
  f170 := Tryz.func97.trans (congrArg some (by kernel_rfl))
  f206 := Tryz.func110.trans (congrArg some (by kernel_rfl))
  f212 := Tryz.func93.trans (congrArg some (by kernel_rfl))
  f240 := Tryz.func111.trans (congrArg some (by kernel_rfl))
  f241 := Tryz.func112.trans (congrArg some (by kernel_rfl))
  f263 := Tryz.func109.trans (congrArg some (by kernel_rfl))
  f264 := Tryz.func108.trans (congrArg some (by kernel_rfl))
  f276 := Tryz.func115.trans (congrArg some (by kernel_rfl))
  f277 := Tryz.func116.trans (congrArg some (by kernel_rfl))
  t0 := Tryz.underlying0
  a0 := Tryz.isAgg0
  z0 := Tryz.sizeOf0
  v0 := Tryz.zeroValue0
  t3 := Tryz.underlying3
  a3 := Tryz.isAgg3
  z3 := Tryz.sizeOf3
  v3 := Tryz.zeroValue3
  t4 := Tryz.underlying4
  a4 := Tryz.isAgg4
  z4 := Tryz.sizeOf4
  v4 := Tryz.zeroValue4
  t5 := Tryz.underlying5
  a5 := Tryz.isAgg5
  z5 := Tryz.sizeOf5
  v5 := Tryz.zeroValue5
  t9 := Tryz.underlying9
  a9 := Tryz.isAgg9
  z9 := Tryz.sizeOf9
  v9 := Tryz.zeroValue9
  t20 := Tryz.underlying20
  a20 := Tryz.isAgg20
  z20 := Tryz.sizeOf20
  v20 := Tryz.zeroValue20
  t37 := Tryz.underlying70
  a37 := Tryz.isAgg70
  z37 := Tryz.sizeOf70
  v37 := Tryz.zeroValue70
  t46 := Tryz.underlying72
  a46 := Tryz.isAgg72
  z46 := Tryz.sizeOf72
  v46 := Tryz.zeroValue72
  t51 := Tryz.underlying75
  a51 := Tryz.isAgg75
  z51 := Tryz.sizeOf75
  v51 := Tryz.zeroValue75
  t53 := Tryz.underlying22
  a53 := Tryz.isAgg22
  z53 := Tryz.sizeOf22
  v53 := Tryz.zeroValue22
  t70 := Tryz.underlying117
  a70 := Tryz.isAgg117
  z70 := Tryz.sizeOf117
  v70 := Tryz.zeroValue117
  t72 := Tryz.underlying119
  a72 := Tryz.isAgg119
  z72 := Tryz.sizeOf119
  v72 := Tryz.zeroValue119
  t75 := Tryz.underlying122
  a75 := Tryz.isAgg122
  z75 := Tryz.sizeOf122
  v75 := Tryz.zeroValue122
  t76 := Tryz.underlying123
  a76 := Tryz.isAgg123
  z76 := Tryz.sizeOf123
  v76 := Tryz.zeroValue123
  t109 := Tryz.underlying114
  a109 := Tryz.isAgg114
  z109 := Tryz.sizeOf114
  v109 := Tryz.zeroValue114
  t127 := Tryz.underlying135
  a127 := Tryz.isAgg135
  z127 := Tryz.sizeOf135
  v127 := Tryz.zeroValue135
  t146 := Tryz.underlying133
  a146 := Tryz.isAgg133
  z146 := Tryz.sizeOf133
  v146 := Tryz.zeroValue133
  t148 := Tryz.underlying126
  a148 := Tryz.isAgg126
  z148 := Tryz.sizeOf126
  v148 := Tryz.zeroValue126
  t164 := Tryz.underlying136
  a164 := Tryz.isAgg136
  z164 := Tryz.sizeOf136
  v164 := Tryz.zeroValue136 }
theorem repExtra : Builder.Extra Tryz.prog repRen := {
  sizeBuilder := by kernel_rfl
  liesBuilder := by kernel_rfl
  t5 := Tryz.underlying5
  a5 := Tryz.isAgg5
  z5 := Tryz.sizeOf5
  v5 := Tryz.zeroValue5
  infoByte := by kernel_rfl
  cellsByte := by kernel_rfl
  sizeByte := by kernel_rfl
  neB5 := by decide }

theorem rep_31 (w : World) : Calls Tryz.prog 62 #[.string s102, .int .i64 31] w fun r w' => r = .returned (.string f31S) ∧ Below w.heap.size w w' := by
  have h := Any.strings_Repeat_main repLays repExtra s102 31 w (by decide) (by decide) (by decide) (by decide)
  have e : (⟨(Lib.repeatL s102.data.toList 31).toArray⟩ : ByteArray) = f31S := by decide +kernel
  rw [e] at h
  exact h

end Go.Proofs.YtkeocdebfgcnnaaGreat

/- The points of the program as values: the contracts of plus, double and pointOf. -/
namespace Go.Proofs.YtkeocdebfgcnnaaGreat
open Go.RowKit

/-- A number's words, by their places. -/
def E5.f (x : E5) : Nat → Int := fun i => [x.a, x.b, x.c, x.d, x.e].getD i 0
/-- A point: four numbers. -/
structure P5 where
  x : E5
  y : E5
  z : E5
  t : E5
def P5.f (p : P5) : Nat → Int := p4 5 p.x.f p.y.f p.z.f p.t.f
structure P5.Ok (p : P5) : Prop where
  x : p.x.Ok
  y : p.y.Ok
  z : p.z.Ok
  t : p.t.Ok
def none5 : P5 := ⟨zeroE, zeroE, zeroE, zeroE⟩
theorem none5_ok : none5.Ok := ⟨zeroE_ok, zeroE_ok, zeroE_ok, zeroE_ok⟩
def dF : E5 := ofF dBy
theorem dF_ok : dF.Ok := ofF_ok _
theorem dBy_size : dBy.size = 32 := by decide
theorem c_factor (w : World) : Calls Tryz.prog 71 #[] w fun r w' => r = .returned (.agg (arr 5 dF.f)) ∧ Below w.heap.size w w' :=
  factor_gen dF.f w ⟨fun w => of_yes dBy w dBy_size⟩

def pointF (x y : E5) : P5 := ⟨x, y, smallF 1, mulF x y⟩
def zero5 : P5 := pointF zeroE (smallF 1)
def sumF (p q : P5) : P5 :=
  let a := mulF (subF p.y p.x) (subF q.y q.x)
  let b := mulF (addF p.y p.x) (addF q.y q.x)
  let c := mulF (mulF dF p.t) (addF q.t q.t)
  let d := mulF p.z (addF q.z q.z)
  ⟨mulF (subF b a) (subF d c), mulF (addF d c) (addF b a), mulF (subF d c) (addF d c), mulF (subF b a) (addF b a)⟩
def dblF (p : P5) : P5 :=
  let a := mulF p.x p.x
  let b := mulF p.y p.y
  let c := mulF p.z (addF p.z p.z)
  let s := addF p.x p.y
  let h := addF a b
  let g := subF a b
  let e := subF h (mulF s s)
  let f := addF c g
  ⟨mulF e f, mulF g h, mulF f g, mulF e h⟩
theorem one_ok : (smallF 1).Ok := smallF_ok (by decide) (by decide)
theorem pointF_ok {x y : E5} (hx : x.Ok) (hy : y.Ok) : (pointF x y).Ok := ⟨hx, hy, one_ok, mulF_ok hx hy⟩
theorem zero5_ok : zero5.Ok := pointF_ok zeroE_ok one_ok
theorem sumF_ok {p q : P5} (hp : p.Ok) (hq : q.Ok) : (sumF p q).Ok := by
  have a := mulF_ok (subF_ok hp.y hp.x) (subF_ok hq.y hq.x)
  have b := mulF_ok (addF_ok hp.y hp.x) (addF_ok hq.y hq.x)
  have c := mulF_ok (mulF_ok dF_ok hp.t) (addF_ok hq.t hq.t)
  have d := mulF_ok hp.z (addF_ok hq.z hq.z)
  exact ⟨mulF_ok (subF_ok b a) (subF_ok d c), mulF_ok (addF_ok d c) (addF_ok b a), mulF_ok (subF_ok d c) (addF_ok d c), mulF_ok (subF_ok b a) (addF_ok b a)⟩
theorem dblF_ok {p : P5} (hp : p.Ok) : (dblF p).Ok := by
  have a := mulF_ok hp.x hp.x
  have b := mulF_ok hp.y hp.y
  have c := mulF_ok hp.z (addF_ok hp.z hp.z)
  have s := addF_ok hp.x hp.y
  have h := addF_ok a b
  have g := subF_ok a b
  have e := subF_ok h (mulF_ok s s)
  have f := addF_ok c g
  exact ⟨mulF_ok e f, mulF_ok g h, mulF_ok f g, mulF_ok e h⟩

theorem c_plus (p q : P5) (w : World) (hp : p.Ok) (hq : q.Ok) : Calls Tryz.prog 53 #[.agg (arr 20 p.f), .agg (arr 20 q.f)] w fun r w' => r = .returned (.agg (arr 20 (sumF p q).f)) ∧ Below w.heap.size w w' :=
  plus_gen p.x.f p.y.f p.z.f p.t.f q.x.f q.y.f q.z.f q.t.f (subF p.y p.x).f (subF q.y q.x).f (mulF (subF p.y p.x) (subF q.y q.x)).f (addF p.y p.x).f (addF q.y q.x).f (mulF (addF p.y p.x) (addF q.y q.x)).f dF.f (mulF dF p.t).f (addF q.t q.t).f (mulF (mulF dF p.t) (addF q.t q.t)).f (addF q.z q.z).f (mulF p.z (addF q.z q.z)).f (subF (mulF (addF p.y p.x) (addF q.y q.x)) (mulF (subF p.y p.x) (subF q.y q.x))).f (subF (mulF p.z (addF q.z q.z)) (mulF (mulF dF p.t) (addF q.t q.t))).f (addF (mulF p.z (addF q.z q.z)) (mulF (mulF dF p.t) (addF q.t q.t))).f (addF (mulF (addF p.y p.x) (addF q.y q.x)) (mulF (subF p.y p.x) (subF q.y q.x))).f (mulF (subF (mulF (addF p.y p.x) (addF q.y q.x)) (mulF (subF p.y p.x) (subF q.y q.x))) (subF (mulF p.z (addF q.z q.z)) (mulF (mulF dF p.t) (addF q.t q.t)))).f (mulF (addF (mulF p.z (addF q.z q.z)) (mulF (mulF dF p.t) (addF q.t q.t))) (addF (mulF (addF p.y p.x) (addF q.y q.x)) (mulF (subF p.y p.x) (subF q.y q.x)))).f (mulF (subF (mulF p.z (addF q.z q.z)) (mulF (mulF dF p.t) (addF q.t q.t))) (addF (mulF p.z (addF q.z q.z)) (mulF (mulF dF p.t) (addF q.t q.t)))).f (mulF (subF (mulF (addF p.y p.x) (addF q.y q.x)) (mulF (subF p.y p.x) (subF q.y q.x))) (addF (mulF (addF p.y p.x) (addF q.y q.x)) (mulF (subF p.y p.x) (subF q.y q.x)))).f w { h1 := fun w => sub_any p.y p.x w hp.y hp.x, h2 := fun w => sub_any q.y q.x w hq.y hq.x, h3 := fun w => mul_any (subF p.y p.x) (subF q.y q.x) w (subF_ok hp.y hp.x) (subF_ok hq.y hq.x), h4 := fun w => add_any p.y p.x w hp.y hp.x, h5 := fun w => add_any q.y q.x w hq.y hq.x, h6 := fun w => mul_any (addF p.y p.x) (addF q.y q.x) w (addF_ok hp.y hp.x) (addF_ok hq.y hq.x), h7 := fun w => c_factor w, h8 := fun w => mul_any dF p.t w dF_ok hp.t, h9 := fun w => add_any q.t q.t w hq.t hq.t, h10 := fun w => mul_any (mulF dF p.t) (addF q.t q.t) w (mulF_ok dF_ok hp.t) (addF_ok hq.t hq.t), h11 := fun w => add_any q.z q.z w hq.z hq.z, h12 := fun w => mul_any p.z (addF q.z q.z) w hp.z (addF_ok hq.z hq.z), h13 := fun w => sub_any (mulF (addF p.y p.x) (addF q.y q.x)) (mulF (subF p.y p.x) (subF q.y q.x)) w (mulF_ok (addF_ok hp.y hp.x) (addF_ok hq.y hq.x)) (mulF_ok (subF_ok hp.y hp.x) (subF_ok hq.y hq.x)), h14 := fun w => sub_any (mulF p.z (addF q.z q.z)) (mulF (mulF dF p.t) (addF q.t q.t)) w (mulF_ok hp.z (addF_ok hq.z hq.z)) (mulF_ok (mulF_ok dF_ok hp.t) (addF_ok hq.t hq.t)), h15 := fun w => add_any (mulF p.z (addF q.z q.z)) (mulF (mulF dF p.t) (addF q.t q.t)) w (mulF_ok hp.z (addF_ok hq.z hq.z)) (mulF_ok (mulF_ok dF_ok hp.t) (addF_ok hq.t hq.t)), h16 := fun w => add_any (mulF (addF p.y p.x) (addF q.y q.x)) (mulF (subF p.y p.x) (subF q.y q.x)) w (mulF_ok (addF_ok hp.y hp.x) (addF_ok hq.y hq.x)) (mulF_ok (subF_ok hp.y hp.x) (subF_ok hq.y hq.x)), h17 := fun w => mul_any (subF (mulF (addF p.y p.x) (addF q.y q.x)) (mulF (subF p.y p.x) (subF q.y q.x))) (subF (mulF p.z (addF q.z q.z)) (mulF (mulF dF p.t) (addF q.t q.t))) w (subF_ok (mulF_ok (addF_ok hp.y hp.x) (addF_ok hq.y hq.x)) (mulF_ok (subF_ok hp.y hp.x) (subF_ok hq.y hq.x))) (subF_ok (mulF_ok hp.z (addF_ok hq.z hq.z)) (mulF_ok (mulF_ok dF_ok hp.t) (addF_ok hq.t hq.t))), h18 := fun w => mul_any (addF (mulF p.z (addF q.z q.z)) (mulF (mulF dF p.t) (addF q.t q.t))) (addF (mulF (addF p.y p.x) (addF q.y q.x)) (mulF (subF p.y p.x) (subF q.y q.x))) w (addF_ok (mulF_ok hp.z (addF_ok hq.z hq.z)) (mulF_ok (mulF_ok dF_ok hp.t) (addF_ok hq.t hq.t))) (addF_ok (mulF_ok (addF_ok hp.y hp.x) (addF_ok hq.y hq.x)) (mulF_ok (subF_ok hp.y hp.x) (subF_ok hq.y hq.x))), h19 := fun w => mul_any (subF (mulF p.z (addF q.z q.z)) (mulF (mulF dF p.t) (addF q.t q.t))) (addF (mulF p.z (addF q.z q.z)) (mulF (mulF dF p.t) (addF q.t q.t))) w (subF_ok (mulF_ok hp.z (addF_ok hq.z hq.z)) (mulF_ok (mulF_ok dF_ok hp.t) (addF_ok hq.t hq.t))) (addF_ok (mulF_ok hp.z (addF_ok hq.z hq.z)) (mulF_ok (mulF_ok dF_ok hp.t) (addF_ok hq.t hq.t))), h20 := fun w => mul_any (subF (mulF (addF p.y p.x) (addF q.y q.x)) (mulF (subF p.y p.x) (subF q.y q.x))) (addF (mulF (addF p.y p.x) (addF q.y q.x)) (mulF (subF p.y p.x) (subF q.y q.x))) w (subF_ok (mulF_ok (addF_ok hp.y hp.x) (addF_ok hq.y hq.x)) (mulF_ok (subF_ok hp.y hp.x) (subF_ok hq.y hq.x))) (addF_ok (mulF_ok (addF_ok hp.y hp.x) (addF_ok hq.y hq.x)) (mulF_ok (subF_ok hp.y hp.x) (subF_ok hq.y hq.x))) }
theorem c_double (p : P5) (w : World) (hp : p.Ok) : Calls Tryz.prog 87 #[.agg (arr 20 p.f)] w fun r w' => r = .returned (.agg (arr 20 (dblF p).f)) ∧ Below w.heap.size w w' :=
  double_gen p.x.f p.y.f p.z.f p.t.f (mulF p.x p.x).f (mulF p.y p.y).f (addF p.z p.z).f (mulF p.z (addF p.z p.z)).f (addF p.x p.y).f (addF (mulF p.x p.x) (mulF p.y p.y)).f (subF (mulF p.x p.x) (mulF p.y p.y)).f (mulF (addF p.x p.y) (addF p.x p.y)).f (subF (addF (mulF p.x p.x) (mulF p.y p.y)) (mulF (addF p.x p.y) (addF p.x p.y))).f (addF (mulF p.z (addF p.z p.z)) (subF (mulF p.x p.x) (mulF p.y p.y))).f (mulF (subF (addF (mulF p.x p.x) (mulF p.y p.y)) (mulF (addF p.x p.y) (addF p.x p.y))) (addF (mulF p.z (addF p.z p.z)) (subF (mulF p.x p.x) (mulF p.y p.y)))).f (mulF (subF (mulF p.x p.x) (mulF p.y p.y)) (addF (mulF p.x p.x) (mulF p.y p.y))).f (mulF (addF (mulF p.z (addF p.z p.z)) (subF (mulF p.x p.x) (mulF p.y p.y))) (subF (mulF p.x p.x) (mulF p.y p.y))).f (mulF (subF (addF (mulF p.x p.x) (mulF p.y p.y)) (mulF (addF p.x p.y) (addF p.x p.y))) (addF (mulF p.x p.x) (mulF p.y p.y))).f w { h1 := fun w => mul_any p.x p.x w hp.x hp.x, h2 := fun w => mul_any p.y p.y w hp.y hp.y, h3 := fun w => add_any p.z p.z w hp.z hp.z, h4 := fun w => mul_any p.z (addF p.z p.z) w hp.z (addF_ok hp.z hp.z), h5 := fun w => add_any p.x p.y w hp.x hp.y, h6 := fun w => add_any (mulF p.x p.x) (mulF p.y p.y) w (mulF_ok hp.x hp.x) (mulF_ok hp.y hp.y), h7 := fun w => sub_any (mulF p.x p.x) (mulF p.y p.y) w (mulF_ok hp.x hp.x) (mulF_ok hp.y hp.y), h8 := fun w => mul_any (addF p.x p.y) (addF p.x p.y) w (addF_ok hp.x hp.y) (addF_ok hp.x hp.y), h9 := fun w => sub_any (addF (mulF p.x p.x) (mulF p.y p.y)) (mulF (addF p.x p.y) (addF p.x p.y)) w (addF_ok (mulF_ok hp.x hp.x) (mulF_ok hp.y hp.y)) (mulF_ok (addF_ok hp.x hp.y) (addF_ok hp.x hp.y)), h10 := fun w => add_any (mulF p.z (addF p.z p.z)) (subF (mulF p.x p.x) (mulF p.y p.y)) w (mulF_ok hp.z (addF_ok hp.z hp.z)) (subF_ok (mulF_ok hp.x hp.x) (mulF_ok hp.y hp.y)), h11 := fun w => mul_any (subF (addF (mulF p.x p.x) (mulF p.y p.y)) (mulF (addF p.x p.y) (addF p.x p.y))) (addF (mulF p.z (addF p.z p.z)) (subF (mulF p.x p.x) (mulF p.y p.y))) w (subF_ok (addF_ok (mulF_ok hp.x hp.x) (mulF_ok hp.y hp.y)) (mulF_ok (addF_ok hp.x hp.y) (addF_ok hp.x hp.y))) (addF_ok (mulF_ok hp.z (addF_ok hp.z hp.z)) (subF_ok (mulF_ok hp.x hp.x) (mulF_ok hp.y hp.y))), h12 := fun w => mul_any (subF (mulF p.x p.x) (mulF p.y p.y)) (addF (mulF p.x p.x) (mulF p.y p.y)) w (subF_ok (mulF_ok hp.x hp.x) (mulF_ok hp.y hp.y)) (addF_ok (mulF_ok hp.x hp.x) (mulF_ok hp.y hp.y)), h13 := fun w => mul_any (addF (mulF p.z (addF p.z p.z)) (subF (mulF p.x p.x) (mulF p.y p.y))) (subF (mulF p.x p.x) (mulF p.y p.y)) w (addF_ok (mulF_ok hp.z (addF_ok hp.z hp.z)) (subF_ok (mulF_ok hp.x hp.x) (mulF_ok hp.y hp.y))) (subF_ok (mulF_ok hp.x hp.x) (mulF_ok hp.y hp.y)), h14 := fun w => mul_any (subF (addF (mulF p.x p.x) (mulF p.y p.y)) (mulF (addF p.x p.y) (addF p.x p.y))) (addF (mulF p.x p.x) (mulF p.y p.y)) w (subF_ok (addF_ok (mulF_ok hp.x hp.x) (mulF_ok hp.y hp.y)) (mulF_ok (addF_ok hp.x hp.y) (addF_ok hp.x hp.y))) (addF_ok (mulF_ok hp.x hp.x) (mulF_ok hp.y hp.y)) }
theorem c_pointOf (x y : E5) (w : World) (hx : x.Ok) (hy : y.Ok) : Calls Tryz.prog 30 #[.agg (arr 5 x.f), .agg (arr 5 y.f)] w fun r w' => r = .returned (.agg (arr 20 (pointF x y).f)) ∧ Below w.heap.size w w' :=
  pointOf_gen x.f y.f (smallF 1).f (mulF x y).f w { h1 := fun w => small_any 1 w (by decide) (by decide), h2 := fun w => mul_any x y w hx hy }
theorem c_zero (w : World) : Calls Tryz.prog 19 #[] w fun r w' => r = .returned (.agg (arr 20 zero5.f)) ∧ Below w.heap.size w w' :=
  zero_gen (smallF 1).f zero5.f w { h1 := fun w => small_any 1 w (by decide) (by decide), h2 := fun w => c_pointOf zeroE (smallF 1) w zeroE_ok one_ok }
def noneB (p : P5) : Bool := p.z.n % Pm == 0
theorem c_none (p : P5) (w : World) (hp : p.Ok) : Calls Tryz.prog 52 #[.agg (arr 20 p.f)] w fun r w' => r = .returned (.bool (noneB p)) ∧ Below w.heap.size w w' :=
  none_gen p.x.f p.y.f p.z.f p.t.f _ w ⟨fun w => by
    have h := same_any p.z zeroE w hp.z zeroE_ok
    rw [zeroE_n] at h
    exact h⟩
theorem none_b {p : P5} (hp : p.Ok) {b : Bool} (h : noneB p = b) : ∀ w, Calls Tryz.prog 52 #[.agg (arr 20 (p4 5 p.x.f p.y.f p.z.f p.t.f))] w fun r w' => r = .returned (.bool b) ∧ Below w.heap.size w w' := fun w => by
  subst h
  exact c_none p w hp

/-- What the exported calls answer. -/
def addV (p q : P5) : P5 := if noneB p then none5 else if noneB q then none5 else sumF p q
def negV (p : P5) : P5 := if noneB p then none5 else ⟨negF p.x, p.y, p.z, negF p.t⟩
def eqE (x y : E5) : Bool := x.n % Pm == y.n % Pm
def sameV (p q : P5) : Bool := !noneB p && (!noneB q && (eqE (mulF p.x q.z) (mulF q.x p.z) && eqE (mulF p.y q.z) (mulF q.y p.z)))
theorem same_b {x y : E5} (hx : x.Ok) (hy : y.Ok) {b : Bool} (h : eqE x y = b) : ∀ w, Calls Tryz.prog 60 #[.agg (arr 5 x.f), .agg (arr 5 y.f)] w fun r w' => r = .returned (.bool b) ∧ Below w.heap.size w w' := fun w => by
  subst h
  exact same_any x y w hx hy
theorem addV_ok {p q : P5} (hp : p.Ok) (hq : q.Ok) : (addV p q).Ok := by
  unfold addV
  split
  · exact none5_ok
  · split
    · exact none5_ok
    · exact sumF_ok hp hq
theorem negV_ok {p : P5} (hp : p.Ok) : (negV p).Ok := by
  unfold negV
  split
  · exact none5_ok
  · exact ⟨negF_ok hp.x, hp.y, hp.z, negF_ok hp.t⟩
theorem c_add (p q : P5) (w : World) (hp : p.Ok) (hq : q.Ok) : Calls Tryz.prog 11 #[.agg (arr 20 p.f), .agg (arr 20 q.f)] w fun r w' => r = .returned (.agg (arr 20 (addV p q).f)) ∧ Below w.heap.size w w' := by
  unfold addV
  cases h1 : noneB p
  · cases h2 : noneB q
    · exact addY_gen _ _ _ _ _ _ _ _ _ w { h1 := none_b hp h1, h2 := none_b hq h2, h3 := fun w => c_plus p q w hp hq }
    · exact addN2_gen _ _ _ _ _ _ _ _ w { h1 := none_b hp h1, h2 := none_b hq h2 }
  · exact addN1_gen _ _ _ _ q.x.f q.y.f q.z.f q.t.f w { h1 := none_b hp h1 }
theorem c_neg (p : P5) (w : World) (hp : p.Ok) : Calls Tryz.prog 13 #[.agg (arr 20 p.f)] w fun r w' => r = .returned (.agg (arr 20 (negV p).f)) ∧ Below w.heap.size w w' := by
  unfold negV
  cases h1 : noneB p
  · exact negY_gen p.x.f p.y.f p.z.f p.t.f (negF p.x).f (negF p.t).f w { h1 := none_b hp h1, h2 := fun w => neg_any p.x w hp.x, h3 := fun w => neg_any p.t w hp.t }
  · exact negN_gen _ _ _ _ w { h1 := none_b hp h1 }
theorem c_same (p q : P5) (w : World) (hp : p.Ok) (hq : q.Ok) : Calls Tryz.prog 17 #[.agg (arr 20 p.f), .agg (arr 20 q.f)] w fun r w' => r = .returned (.bool (sameV p q)) ∧ Below w.heap.size w w' := by
  unfold sameV
  cases h1 : noneB p
  · cases h2 : noneB q
    · cases h3 : eqE (mulF p.x q.z) (mulF q.x p.z)
      · exact sameF_gen p.x.f p.y.f p.z.f p.t.f q.x.f q.y.f q.z.f q.t.f (mulF p.x q.z).f (mulF q.x p.z).f w { h1 := none_b hp h1, h2 := none_b hq h2, h3 := fun w => mul_any p.x q.z w hp.x hq.z, h4 := fun w => mul_any q.x p.z w hq.x hp.z, h5 := same_b (mulF_ok hp.x hq.z) (mulF_ok hq.x hp.z) h3 }
      · exact sameT_gen p.x.f p.y.f p.z.f p.t.f q.x.f q.y.f q.z.f q.t.f (mulF p.x q.z).f (mulF q.x p.z).f (mulF p.y q.z).f (mulF q.y p.z).f _ w { h1 := none_b hp h1, h2 := none_b hq h2, h3 := fun w => mul_any p.x q.z w hp.x hq.z, h4 := fun w => mul_any q.x p.z w hq.x hp.z, h5 := same_b (mulF_ok hp.x hq.z) (mulF_ok hq.x hp.z) h3, h6 := fun w => mul_any p.y q.z w hp.y hq.z, h7 := fun w => mul_any q.y p.z w hq.y hp.z, h8 := same_b (mulF_ok hp.y hq.z) (mulF_ok hq.y hp.z) rfl }
    · exact sameN2_gen _ _ _ _ _ _ _ _ w { h1 := none_b hp h1, h2 := none_b hq h2 }
  · exact sameN1_gen _ _ _ _ q.x.f q.y.f q.z.f q.t.f w { h1 := none_b hp h1 }

end Go.Proofs.YtkeocdebfgcnnaaGreat

/- Decode, Bytes, Base and Small of the program as values. -/
namespace Go.Proofs.YtkeocdebfgcnnaaGreat
open Go.RowKit

/-- The bytes without the highest bit, and whether that is set. -/
def cutF (s : ByteArray) : Nat → Int := upd (bt s) 31 (bits .andNot .u8 (bt s 31) 128)
def cutS (s : ByteArray) : ByteArray := bs ((List.range 32).map (cutF s))
def oddB (s : ByteArray) : Bool := !(decide (bits .and .u8 (bt s 31) 128 = 0))
theorem bits_bd {x : Int} (h0 : 0 ≤ x) (h1 : x < 256) : (0 ≤ bits .andNot .u8 x 128 ∧ bits .andNot .u8 x 128 < 256) ∧ (0 ≤ bits .or .u8 x 128 ∧ bits .or .u8 x 128 < 256) ∧ (0 ≤ bits .and .u8 x 127 ∧ bits .and .u8 x 127 < 256) ∧ bits .or .u8 x 0 = x ∧ bits .andNot .u8 x 128 = x % 128 ∧ bits .and .u8 x 127 = x % 128 ∧ (bits .and .u8 x 128 = 0 ↔ x / 128 = 0) ∧ (x < 128 → bits .or .u8 x 128 = x + 128) := by
  obtain ⟨X, rfl⟩ := Int.eq_ofNat_of_zero_le h0
  have hX : X < 256 := by omega
  have h : ∀ n : Fin 256, (0 ≤ bits .andNot .u8 ((n.val : Nat) : Int) 128 ∧ bits .andNot .u8 ((n.val : Nat) : Int) 128 < 256) ∧ (0 ≤ bits .or .u8 ((n.val : Nat) : Int) 128 ∧ bits .or .u8 ((n.val : Nat) : Int) 128 < 256) ∧ (0 ≤ bits .and .u8 ((n.val : Nat) : Int) 127 ∧ bits .and .u8 ((n.val : Nat) : Int) 127 < 256) ∧ bits .or .u8 ((n.val : Nat) : Int) 0 = ((n.val : Nat) : Int) ∧ bits .andNot .u8 ((n.val : Nat) : Int) 128 = ((n.val : Nat) : Int) % 128 ∧ bits .and .u8 ((n.val : Nat) : Int) 127 = ((n.val : Nat) : Int) % 128 ∧ (bits .and .u8 ((n.val : Nat) : Int) 128 = 0 ↔ ((n.val : Nat) : Int) / 128 = 0) ∧ (((n.val : Nat) : Int) < 128 → bits .or .u8 ((n.val : Nat) : Int) 128 = ((n.val : Nat) : Int) + 128) := by decide +kernel
  exact h ⟨X, hX⟩
theorem upd_bd {s : ByteArray} {v : Int} (hv : 0 ≤ v ∧ v < 256) (i : Nat) : 0 ≤ upd (bt s) 31 v i ∧ upd (bt s) 31 v i < 256 := by
  unfold upd
  split
  · exact hv
  · exact bt_bd s i
theorem c_parted (s : ByteArray) (w : World) (hs : s.size = 32) : Calls Tryz.prog 24 #[.string s] w fun r w' => r = .returned (.tuple #[.string (cutS s), .bool (oddB s)]) ∧ Below w.heap.size w w' :=
  parted_gen s w ⟨trivial⟩ hs fun i _ => upd_bd (bits_bd (bt_bd s 31).1 (bt_bd s 31).2).1 i

/-- The x that is not odd of the points that have this y. -/
def besE (y : E5) : E5 := mulF (subF (mulF y y) (smallF 1)) (invF (addF (mulF dF (mulF y y)) (smallF 1)))
theorem besE_ok {y : E5} (hy : y.Ok) : (besE y).Ok := mulF_ok (subF_ok (mulF_ok hy hy) one_ok) (invF_ok (addF_ok (mulF_ok dF_ok (mulF_ok hy hy)) one_ok))
theorem c_besides (y : E5) (w : World) (hy : y.Ok) : Calls Tryz.prog 27 #[.agg (arr 5 y.f)] w fun r w' => r = .returned (.tuple #[.agg (arr 5 (rootF (besE y)).1.f), .bool (rootF (besE y)).2]) ∧ Below w.heap.size w w' :=
  besides_gen y.f (smallF 1).f (mulF y y).f (subF (mulF y y) (smallF 1)).f dF.f (mulF dF (mulF y y)).f (addF (mulF dF (mulF y y)) (smallF 1)).f (invF (addF (mulF dF (mulF y y)) (smallF 1))).f (besE y).f (rootF (besE y)).1.f (rootF (besE y)).2 w
    { h1 := fun w => small_any 1 w (by decide) (by decide)
      h2 := fun w => mul_any y y w hy hy
      h3 := fun w => sub_any (mulF y y) (smallF 1) w (mulF_ok hy hy) one_ok
      h4 := fun w => c_factor w
      h5 := fun w => mul_any dF (mulF y y) w dF_ok (mulF_ok hy hy)
      h6 := fun w => add_any (mulF dF (mulF y y)) (smallF 1) w (mulF_ok dF_ok (mulF_ok hy hy)) one_ok
      h7 := fun w => inv_any (addF (mulF dF (mulF y y)) (smallF 1)) w (addF_ok (mulF_ok dF_ok (mulF_ok hy hy)) one_ok)
      h8 := fun w => mul_any (subF (mulF y y) (smallF 1)) (invF (addF (mulF dF (mulF y y)) (smallF 1))) w (subF_ok (mulF_ok hy hy) one_ok) (invF_ok (addF_ok (mulF_ok dF_ok (mulF_ok hy hy)) one_ok))
      h9 := fun w => root_any (besE y) w (besE_ok hy) }

theorem cutS_size (s : ByteArray) : (cutS s).size = 32 := by unfold cutS; rw [bs_size]; simp
def decY (s : ByteArray) : E5 := ofF (cutS s)
def decX (s : ByteArray) : E5 := if oddB s then negF (rootF (besE (decY s))).1 else (rootF (besE (decY s))).1
def oddE (x : E5) : Bool := x.n % Pm % 2 == 1
theorem decY_ok (s : ByteArray) : (decY s).Ok := ofF_ok _
theorem decX_ok (s : ByteArray) : (decX s).Ok := by
  unfold decX
  split
  · exact negF_ok (rootF_ok (besE_ok (decY_ok s)))
  · exact rootF_ok (besE_ok (decY_ok s))
/-- Is it a point's bytes? -/
def decB (s : ByteArray) : Bool := decide (val (cutS s) < Pm) && ((rootF (besE (decY s))).2 && (oddE (decX s) == oddB s))
def decP (s : ByteArray) : P5 := if s.size = 32 then if decB s then pointF (decX s) (decY s) else none5 else none5
def decC (s : ByteArray) : Int := if s.size = 32 then if decB s then 0 else 40 else 2
theorem decP_ok (s : ByteArray) : (decP s).Ok := by
  unfold decP
  split
  · split
    · exact pointF_ok (decX_ok s) (decY_ok s)
    · exact none5_ok
  · exact none5_ok
theorem odd_b {x : E5} (hx : x.Ok) {b : Bool} (h : oddE x = b) : ∀ w, Calls Tryz.prog 29 #[.agg (arr 5 x.f)] w fun r w' => r = .returned (.bool b) ∧ Below w.heap.size w w' := fun w => by
  subst h
  exact odd_any x w hx
theorem neg_f (x : E5) (w : World) (hx : x.Ok) : Calls Tryz.prog 28 #[.agg (arr 5 x.f)] w fun r w' => r = .returned (.agg (arr 5 (negF x).f)) ∧ Below w.heap.size w w' := neg_any x w hx
theorem of_f (s : ByteArray) (w : World) (hs : s.size = 32) (y : E5) (hy : y = ofF s) : Calls Tryz.prog 26 #[.string s] w fun r w' => r = .returned (.tuple #[.agg (arr 5 y.f), .int .i64 0]) ∧ Below w.heap.size w w' := by
  subst hy
  exact of_yes s w hs
theorem c_decode (s : ByteArray) (w : World) : Calls Tryz.prog 5 #[.string s] w fun r w' => r = .returned (.tuple #[.agg (arr 20 (decP s).f), .int .i64 (decC s)]) ∧ Below w.heap.size w w' := by
  unfold decP decC
  by_cases hs : s.size = 32
  · rw [if_pos hs, if_pos hs]
    have hp : ∀ {b : Bool}, oddB s = b → ∀ w, Calls Tryz.prog 24 #[.string s] w fun r w' => r = .returned (.tuple #[.string (cutS s), .bool b]) ∧ Below w.heap.size w w' := fun {b} h w => by
      subst h
      exact c_parted s w hs
    have hc : ∀ {b : Bool}, decide (val (cutS s) < Pm) = b → ∀ w, Calls Tryz.prog 25 #[.string (cutS s)] w fun r w' => r = .returned (.bool b) ∧ Below w.heap.size w w' := fun {b} h w => by
      subst h
      exact canon_yes (cutS s) w (cutS_size s)
    have hb : ∀ {b : Bool}, (rootF (besE (decY s))).2 = b → ∀ w, Calls Tryz.prog 27 #[.agg (arr 5 (decY s).f)] w fun r w' => r = .returned (.tuple #[.agg (arr 5 (rootF (besE (decY s))).1.f), .bool b]) ∧ Below w.heap.size w w' := fun {b} h w => by
      subst h
      exact c_besides (decY s) w (decY_ok s)
    have ho : ∀ w, Calls Tryz.prog 26 #[.string (cutS s)] w fun r w' => r = .returned (.tuple #[.agg (arr 5 (decY s).f), .int .i64 0]) ∧ Below w.heap.size w w' := fun w => of_f (cutS s) w (cutS_size s) (decY s) rfl
    have hr := rootF_ok (besE_ok (decY_ok s))
    have hx := decX_ok s
    have no : ∀ h : decB s = false, (if decB s = true then pointF (decX s) (decY s) else none5) = none5 ∧ (if decB s = true then (0 : Int) else 40) = 40 := fun h => by
      rw [h]
      exact ⟨if_neg Bool.false_ne_true, if_neg Bool.false_ne_true⟩
    have yes : ∀ h : decB s = true, (if decB s = true then pointF (decX s) (decY s) else none5) = pointF (decX s) (decY s) ∧ (if decB s = true then (0 : Int) else 40) = 0 := fun h => by
      rw [h]
      exact ⟨if_pos rfl, if_pos rfl⟩
    cases h1 : decide (val (cutS s) < Pm)
    · have hB : decB s = false := by unfold decB; rw [h1]; rfl
      rw [(no hB).1, (no hB).2]
      exact decC_gen s _ _ w { h1 := hp rfl, h2 := hc h1 } hs
    · cases h2 : (rootF (besE (decY s))).2
      · have hB : decB s = false := by unfold decB; rw [h1, h2]; rfl
        rw [(no hB).1, (no hB).2]
        cases h0 : oddB s
        · exact decRF_gen s _ _ _ w { h1 := hp h0, h2 := hc h1, h3 := ho, h4 := hb h2 } hs
        · exact decRT_gen s _ _ (negF (rootF (besE (decY s))).1).f _ w { h1 := hp h0, h2 := hc h1, h3 := ho, h4 := hb h2, h5 := fun w => neg_f _ w hr } hs
      · cases h0 : oddB s
        · have hX : decX s = (rootF (besE (decY s))).1 := by unfold decX; rw [h0]; exact if_neg Bool.false_ne_true
          rw [hX] at hx
          cases h3 : oddE (rootF (besE (decY s))).1
          · have hB : decB s = true := by unfold decB; rw [h1, h2, hX, h3, h0]; rfl
            rw [(yes hB).1, (yes hB).2, hX]
            exact decYF_gen s _ _ (pointF (rootF (besE (decY s))).1 (decY s)).f _ w { h1 := hp h0, h2 := hc h1, h3 := ho, h4 := hb h2, h5 := odd_b hx h3, h6 := fun w => c_pointOf _ _ w hx (decY_ok s) } hs
          · have hB : decB s = false := by unfold decB; rw [h1, h2, hX, h3, h0]; rfl
            rw [(no hB).1, (no hB).2]
            exact decOF_gen s _ _ _ w { h1 := hp h0, h2 := hc h1, h3 := ho, h4 := hb h2, h5 := odd_b hx h3 } hs
        · have hX : decX s = negF (rootF (besE (decY s))).1 := by unfold decX; rw [h0]; exact if_pos rfl
          rw [hX] at hx
          cases h3 : oddE (negF (rootF (besE (decY s))).1)
          · have hB : decB s = false := by unfold decB; rw [h1, h2, hX, h3, h0]; rfl
            rw [(no hB).1, (no hB).2]
            exact decOT_gen s _ _ (negF (rootF (besE (decY s))).1).f _ w { h1 := hp h0, h2 := hc h1, h3 := ho, h4 := hb h2, h5 := fun w => neg_f _ w hr, h6 := odd_b hx h3 } hs
          · have hB : decB s = true := by unfold decB; rw [h1, h2, hX, h3, h0]; rfl
            rw [(yes hB).1, (yes hB).2, hX]
            exact decYT_gen s _ _ (negF (rootF (besE (decY s))).1).f (pointF (negF (rootF (besE (decY s))).1) (decY s)).f _ w { h1 := hp h0, h2 := hc h1, h3 := ho, h4 := hb h2, h5 := fun w => neg_f _ w hr, h6 := odd_b hx h3, h7 := fun w => c_pointOf _ _ w hx (decY_ok s) } hs
  · rw [if_neg hs, if_neg hs]
    exact decL_gen s w ⟨trivial⟩ (fun h => hs (by omega))

/-- The bytes of a number, with the highest bit set or not. -/
def encF (o : Bool) (s : ByteArray) : Nat → Int := if o then upd (bt s) 31 (bits .or .u8 (bt s 31) 128) else bt s
def encS (o : Bool) (s : ByteArray) : ByteArray := bs ((List.range 32).map (encF o s))
def bytesV (p : P5) : ByteArray := if noneB p then ⟨#[]⟩ else encS (oddE (mulF p.x (invF p.z))) (lebytes ((mulF p.y (invF p.z)).n % Pm))
theorem leb_size (n : Int) : (lebytes n).size = 32 := by unfold lebytes; rw [bs_size]; simp [digs]
theorem c_bytes (p : P5) (w : World) (hp : p.Ok) : Calls Tryz.prog 33 #[.agg (arr 20 p.f)] w fun r w' => r = .returned (.string (bytesV p)) ∧ Below w.heap.size w w' := by
  unfold bytesV
  have hi := invF_ok hp.z
  have hy := mulF_ok hp.y hi
  have hx := mulF_ok hp.x hi
  have hl := leb_size ((mulF p.y (invF p.z)).n % Pm)
  cases h1 : noneB p
  · simp only [Bool.false_eq_true, if_false]
    cases h2 : oddE (mulF p.x (invF p.z))
    · exact bytesF_gen p.x.f p.y.f p.z.f p.t.f (invF p.z).f (mulF p.y (invF p.z)).f (mulF p.x (invF p.z)).f _ w { h1 := none_b hp h1, h2 := fun w => inv_any p.z w hp.z, h3 := fun w => mul_any p.y (invF p.z) w hp.y hi, h4 := fun w => bytes_any (mulF p.y (invF p.z)) w hy, h5 := fun w => mul_any p.x (invF p.z) w hp.x hi, h6 := odd_b hx h2 } hl (fun i _ => bt_bd _ i)
    · exact bytesT_gen p.x.f p.y.f p.z.f p.t.f (invF p.z).f (mulF p.y (invF p.z)).f (mulF p.x (invF p.z)).f _ w { h1 := none_b hp h1, h2 := fun w => inv_any p.z w hp.z, h3 := fun w => mul_any p.y (invF p.z) w hp.y hi, h4 := fun w => bytes_any (mulF p.y (invF p.z)) w hy, h5 := fun w => mul_any p.x (invF p.z) w hp.x hi, h6 := odd_b hx h2 } hl (fun i _ => upd_bd (bits_bd (bt_bd _ 31).1 (bt_bd _ 31).2).2.1 i)
  · exact bytesN_gen p.x.f p.y.f p.z.f p.t.f w { h1 := none_b hp h1 }

def base5 : P5 := decP baseS
theorem base5_ok : base5.Ok := decP_ok baseS
theorem c_base_of (base_c : decC baseS = 0) (w : World) : Calls Tryz.prog 20 #[] w fun r w' => r = .returned (.agg (arr 20 base5.f)) ∧ Below w.heap.size w w' :=
  base_gen base5.f w ⟨rep_31, fun w => by
    have h := c_decode baseS w
    rw [base_c] at h
    exact h⟩
/-- Three times doubled. -/
def oct (p : P5) : P5 := dblF (dblF (dblF p))
theorem oct_ok {p : P5} (hp : p.Ok) : (oct p).Ok := dblF_ok (dblF_ok (dblF_ok hp))
def smallV (p : P5) : Bool := !noneB p && sameV (oct p) zero5
theorem c_oct (p : P5) (w : World) (hp : p.Ok) : Calls Tryz.prog 57 #[.agg (arr 20 p.f), .int .i64 3] w fun r w' => r = .returned (.agg (arr 20 (oct p).f)) ∧ Below w.heap.size w w' :=
  dbl3_gen p.f (dblF p).f (dblF (dblF p)).f (oct p).f w { h1 := fun w => c_double p w hp, h2 := fun w => c_double _ w (dblF_ok hp), h3 := fun w => c_double _ w (dblF_ok (dblF_ok hp)) }
theorem c_small (p : P5) (w : World) (hp : p.Ok) : Calls Tryz.prog 34 #[.agg (arr 20 p.f)] w fun r w' => r = .returned (.bool (smallV p)) ∧ Below w.heap.size w w' := by
  unfold smallV
  cases h1 : noneB p
  · exact smallY_gen p.x.f p.y.f p.z.f p.t.f (oct p).f zero5.f _ w { h1 := none_b hp h1, h2 := fun w => c_oct p w hp, h3 := c_zero, h4 := fun w => c_same (oct p) zero5 w (oct_ok hp) zero5_ok }
  · exact smallN_gen p.x.f p.y.f p.z.f p.t.f w { h1 := none_b hp h1 }

end Go.Proofs.YtkeocdebfgcnnaaGreat

/- The document's Bytes and Decode as values. -/
namespace Go.Proofs.YtkeocdebfgcnnaaGreat
open Go.RowKit

/- The document's Bytes and Decode. -/
theorem cut_eq (s : ByteArray) : upd (bt s) 31 (bits .and .u8 (bt s 31) 127) = cutF s := by
  have h := bits_bd (bt_bd s 31).1 (bt_bd s 31).2
  unfold cutF
  rw [h.2.2.2.2.1, h.2.2.2.2.2.1]
theorem odd_eq (s : ByteArray) : decide (bt s 31 / 128 = 1) = oddB s := by
  have h := bits_bd (bt_bd s 31).1 (bt_bd s 31).2
  have hb := bt_bd s 31
  unfold oddB
  by_cases e : bt s 31 / 128 = 1
  · have e2 : ¬ bits .and .u8 (bt s 31) 128 = 0 := fun h2 => by
      have := h.2.2.2.2.2.2.1.1 h2
      omega
    rw [decide_eq_true e, decide_eq_false e2]
    rfl
  · have e2 : bits .and .u8 (bt s 31) 128 = 0 := h.2.2.2.2.2.2.1.2 (by omega)
    rw [decide_eq_false e, decide_eq_true e2]
    rfl
theorem enc_or0 (s : ByteArray) : upd (bt s) 31 (bits .or .u8 (bt s 31) 0) = encF false s := by
  have h := bits_bd (bt_bd s 31).1 (bt_bd s 31).2
  unfold encF
  rw [h.2.2.2.1]
  funext i
  unfold upd
  split
  · next e => rw [e]; rfl
  · rfl
theorem rpar (N : Int) : bits BinOp.and IntKind.u64 (d16 N 0) 1 = N % 2 := by
  have hd := d16_dig N 1 0 (by omega)
  rw [u64_and _ 1 hd.1 (by omega) (by decide) (by decide), show (1 : Int).toNat = 1 from rfl, nat_mask1]
  have e : d16 N 0 = N % 65536 := by simp [d16]
  rw [e]
  omega
def rbytesV (p : RQ) : ByteArray := encS (mI p.x (vI p.z) % 2 == 1) (lebytes (mI p.y (vI p.z)))
theorem leb_rb {W : Int} (hW : Bd W) : lebytes W = bs (rb (d16 W) 32) := by
  have h := lebytes_S (f := d16 W) (d16_dig W 16)
  rwa [bS hW] at h
theorem c_rbytes (p : RQ) (w : World) (hp : p.Ok) : Calls Tryz.prog 36 #[.agg (arr 64 p.f)] w fun r w' => r = .returned (.string (rbytesV p)) ∧ Below w.heap.size w w' := by
  unfold rbytesV
  have hb : ∀ w, Calls Tryz.prog 77 #[.agg (arr 16 (d16 (mI p.y (vI p.z))))] w fun r w' => r = .returned (.string (lebytes (mI p.y (vI p.z)))) ∧ Below w.heap.size w w' := fun w => by
    rw [leb_rb (mI_bd _ _)]
    exact rbytes_any _ w (d16_dig _ 16)
  have hs := leb_size (mI p.y (vI p.z))
  have hq := rpar (mI p.x (vI p.z))
  by_cases h : mI p.x (vI p.z) % 2 = 1
  · have e : (mI p.x (vI p.z) % 2 == 1) = true := by rw [h]; rfl
    rw [e]
    rw [h] at hq
    exact rbytesT_gen (d16 p.x) (d16 p.y) (d16 p.z) (d16 p.t) (d16 (vI p.z)) (d16 (mI p.x (vI p.z))) (d16 (mI p.y (vI p.z))) _ w ⟨fun w => rinvD p.z w hp.z, fun w => rmulD p.x _ w hp.x (vI_bd _), fun w => rmulD p.y _ w hp.y (vI_bd _), hb⟩ hq hs (fun i _ => upd_bd (bits_bd (bt_bd _ 31).1 (bt_bd _ 31).2).2.1 i)
  · have h0 : mI p.x (vI p.z) % 2 = 0 := by omega
    have e : (mI p.x (vI p.z) % 2 == 1) = false := by rw [h0]; rfl
    rw [e]
    rw [h0] at hq
    have h2 := rbytesF_gen (d16 p.x) (d16 p.y) (d16 p.z) (d16 p.t) (d16 (vI p.z)) (d16 (mI p.x (vI p.z))) (d16 (mI p.y (vI p.z))) _ w ⟨fun w => rinvD p.z w hp.z, fun w => rmulD p.x _ w hp.x (vI_bd _), fun w => rmulD p.y _ w hp.y (vI_bd _), hb⟩ hq hs (fun i _ => by
      rw [enc_or0]
      exact bt_bd _ i)
    rw [enc_or0] at h2
    exact h2

/-- What Decode takes the root of. -/
def aI (Y : Int) : Int := mI (sI (mI Y Y) 1) (vI (pI (mI DI (mI Y Y)) 1))
theorem aI_bd (Y : Int) : Bd (aI Y) := by
  unfold aI
  exact mI_bd _ _
def rY (s : ByteArray) : Int := val (cutS s) % Pm
/-- The root, not to be laid open. -/
theorem rrP_eq : (fun _ : Int × Bool => True ∧ True) = fun _ => True := funext fun _ => propext ⟨fun _ => trivial, fun _ => ⟨trivial, trivial⟩⟩
theorem cast_val {α : Type} {P Q : α → Prop} (h : P = Q) (x : α) (p : P x) : (cast (congrArg Subtype h) ⟨x, p⟩ : Subtype Q).1 = x := by
  subst h
  rfl
def rr (A : Int) : Int × Bool := (cast (congrArg Subtype rrP_eq) ⟨rrF A, trivial, trivial⟩ : {_q : Int × Bool // True}).1
theorem rr_eq (A : Int) : rr A = rrF A := cast_val rrP_eq _ _
theorem rr_bd (A : Int) : Bd (rr A).1 := by
  rw [rr_eq]
  exact rrF_bd A
theorem rrootE (a : Int) (w : World) (ha : Bd a) : Calls Tryz.prog 45 #[.agg (arr 16 (d16 a))] w fun r w' => r = .returned (.tuple #[.agg (arr 16 (d16 (rr a).1)), .bool (rr a).2]) ∧ Below w.heap.size w w' := by
  rw [rr_eq]
  exact rrootD a w ha
def rX (s : ByteArray) : Int := (rr (aI (rY s))).1
def rdecB (s : ByteArray) : Bool := decide (val (cutS s) < Pm) && ((rr (aI (rY s))).2 && !((rX s == 0) && oddB s))
def rdecX (s : ByteArray) : Int := if oddB s then nI (rX s) else rX s
def rnone : RQ := ⟨0, 0, 0, 0⟩
theorem rnone_f : rnone.f = fun _ => 0 := by
  unfold RQ.f rnone
  simp only
  rw [d16_zero]
  funext i
  unfold p4
  simp
def rdecP (s : ByteArray) : RQ := if s.size = 32 then if rdecB s then rofV (rdecX s) (rY s) else rnone else rnone
def rdecC (s : ByteArray) : Int := if s.size = 32 then if rdecB s then 0 else 40 else 2
theorem rY_bd (s : ByteArray) : Bd (rY s) := by
  unfold rY
  exact em (val (cutS s))
theorem rX_bd (s : ByteArray) : Bd (rX s) := rr_bd _
theorem rdecX_bd (s : ByteArray) : Bd (rdecX s) := by
  unfold rdecX
  split
  · exact nI_bd _
  · exact rX_bd s
theorem c_rdec (s : ByteArray) (w : World) : Calls Tryz.prog 8 #[.string s] w fun r w' => r = .returned (.tuple #[.agg (arr 64 (rdecP s).f), .int .i64 (rdecC s)]) ∧ Below w.heap.size w w' := by
  unfold rdecP rdecC
  by_cases hs : s.size = 32
  · rw [if_pos hs, if_pos hs]
    have hf : ∀ i, i < 32 → 0 ≤ (upd (bt s) 31 (bits .and .u8 (bt s 31) 127)) i ∧ (upd (bt s) 31 (bits .and .u8 (bt s 31) 127)) i < 256 := fun i _ => upd_bd (bits_bd (bt_bd s 31).1 (bt_bd s 31).2).2.2.1 i
    have hcut : bs ((List.range 32).map (upd (bt s) 31 (bits .and .u8 (bt s 31) 127))) = cutS s := by rw [cut_eq]; rfl
    have hc : ∀ {b : Bool}, decide (val (cutS s) < Pm) = b → ∀ w, Calls Tryz.prog 37 #[.string (bs ((List.range 32).map (upd (bt s) 31 (bits .and .u8 (bt s 31) 127))))] w fun r w' => r = .returned (.bool b) ∧ Below w.heap.size w w' := fun {b} h w => by
      subst h
      rw [hcut]
      exact rcanon_yes (cutS s) w (cutS_size s)
    have ho : ∀ w, Calls Tryz.prog 38 #[.string (bs ((List.range 32).map (upd (bt s) 31 (bits .and .u8 (bt s 31) 127))))] w fun r w' => r = .returned (.agg (arr 16 (d16 (rY s)))) ∧ Below w.heap.size w w' := fun w => by
      rw [hcut]
      exact rof_any (cutS s) w (cutS_size s)
    have hY := rY_bd s
    have hr : ∀ {b : Bool}, (rr (aI (rY s))).2 = b → ∀ w, Calls Tryz.prog 45 #[.agg (arr 16 (d16 (aI (rY s))))] w fun r w' => r = .returned (.tuple #[.agg (arr 16 (d16 (rX s))), .bool b]) ∧ Below w.heap.size w w' := fun {b} h w => by
      subst h
      exact rrootE (aI (rY s)) w (aI_bd _)
    have h3 := fun w => rmulD (rY s) (rY s) w hY hY
    have h4 : ∀ w, Calls Tryz.prog 41 #[.int .u32 1] w fun r w' => r = .returned (.agg (arr 16 (d16 1))) ∧ Below w.heap.size w w' := fun w => rsmall_any 1 w (by decide) (by decide)
    have h5 := fun w => rsubD (mI (rY s) (rY s)) 1 w (mI_bd _ _) one_bd
    have h7 := fun w => rmulD DI (mI (rY s) (rY s)) w DI_bd (mI_bd _ _)
    have h8 := fun w => raddD (mI DI (mI (rY s) (rY s))) 1 w (mI_bd _ _) one_bd
    have h9 := fun w => rinvD (pI (mI DI (mI (rY s) (rY s))) 1) w (pI_bd _ _)
    have h10 := fun w => rmulD (sI (mI (rY s) (rY s)) 1) (vI (pI (mI DI (mI (rY s) (rY s))) 1)) w (sI_bd _ _) (vI_bd _)
    have no : ∀ h : rdecB s = false, (if rdecB s = true then rofV (rdecX s) (rY s) else rnone) = rnone ∧ (if rdecB s = true then (0 : Int) else 40) = 40 := fun h => by
      rw [h]
      exact ⟨if_neg Bool.false_ne_true, if_neg Bool.false_ne_true⟩
    have yes : ∀ h : rdecB s = true, (if rdecB s = true then rofV (rdecX s) (rY s) else rnone) = rofV (rdecX s) (rY s) ∧ (if rdecB s = true then (0 : Int) else 40) = 0 := fun h => by
      rw [h]
      exact ⟨if_pos rfl, if_pos rfl⟩
    cases h1 : decide (val (cutS s) < Pm)
    · have hB : rdecB s = false := by unfold rdecB; rw [h1]; rfl
      rw [(no hB).1, (no hB).2, rnone_f]
      exact rdecC_gen s w ⟨hc h1⟩ hs hf
    · cases h2 : (rr (aI (rY s))).2
      · have hB : rdecB s = false := by unfold rdecB; rw [h1, h2]; rfl
        rw [(no hB).1, (no hB).2, rnone_f]
        exact rdecR_gen s (d16 (rY s)) (d16 (mI (rY s) (rY s))) (d16 1) (d16 (sI (mI (rY s) (rY s)) 1)) (d16 DI) (d16 (mI DI (mI (rY s) (rY s)))) (d16 (pI (mI DI (mI (rY s) (rY s))) 1)) (d16 (vI (pI (mI DI (mI (rY s) (rY s))) 1))) (d16 (aI (rY s))) (d16 (rX s)) w ⟨hc h1, ho, h3, h4, h5, c_rD, h7, h8, h9, h10, hr h2⟩ hs hf
      · have heq : eqw (d16 (rX s)) (fun _ => 0) 0 16 = (rX s == 0) := by
          rw [← d16_zero]
          exact eqD (rX_bd s) zero_bd
        have hX := rX_bd s
        cases h0 : oddB s
        · have hd : rdecX s = rX s := by unfold rdecX; rw [h0]; exact if_neg Bool.false_ne_true
          have hB : rdecB s = true := by unfold rdecB; rw [h1, h2, h0]; simp
          rw [(yes hB).1, (yes hB).2, hd]
          have hodd := odd_eq s
          rw [h0] at hodd
          cases he : (rX s == 0)
          · exact rdecYF_gen s (d16 (rY s)) (d16 (mI (rY s) (rY s))) (d16 1) (d16 (sI (mI (rY s) (rY s)) 1)) (d16 DI) (d16 (mI DI (mI (rY s) (rY s)))) (d16 (pI (mI DI (mI (rY s) (rY s))) 1)) (d16 (vI (pI (mI DI (mI (rY s) (rY s))) 1))) (d16 (aI (rY s))) (d16 (rX s)) (rofV (rX s) (rY s)).f w ⟨hc h1, ho, h3, h4, h5, c_rD, h7, h8, h9, h10, hr h2, fun w => c_rof _ _ w hX hY⟩ hs hf hodd (heq.trans he)
          · exact rdecZF_gen s (d16 (rY s)) (d16 (mI (rY s) (rY s))) (d16 1) (d16 (sI (mI (rY s) (rY s)) 1)) (d16 DI) (d16 (mI DI (mI (rY s) (rY s)))) (d16 (pI (mI DI (mI (rY s) (rY s))) 1)) (d16 (vI (pI (mI DI (mI (rY s) (rY s))) 1))) (d16 (aI (rY s))) (d16 (rX s)) (rofV (rX s) (rY s)).f w ⟨hc h1, ho, h3, h4, h5, c_rD, h7, h8, h9, h10, hr h2, fun w => c_rof _ _ w hX hY⟩ hs hf hodd (heq.trans he)
        · have hd : rdecX s = nI (rX s) := by unfold rdecX; rw [h0]; exact if_pos rfl
          have hodd := odd_eq s
          rw [h0] at hodd
          cases he : (rX s == 0)
          · have hB : rdecB s = true := by unfold rdecB; rw [h1, h2, h0, he]; rfl
            rw [(yes hB).1, (yes hB).2, hd]
            exact rdecYT_gen s (d16 (rY s)) (d16 (mI (rY s) (rY s))) (d16 1) (d16 (sI (mI (rY s) (rY s)) 1)) (d16 DI) (d16 (mI DI (mI (rY s) (rY s)))) (d16 (pI (mI DI (mI (rY s) (rY s))) 1)) (d16 (vI (pI (mI DI (mI (rY s) (rY s))) 1))) (d16 (aI (rY s))) (d16 (rX s)) (d16 (nI (rX s))) (rofV (nI (rX s)) (rY s)).f w ⟨hc h1, ho, h3, h4, h5, c_rD, h7, h8, h9, h10, hr h2, fun w => rnegD _ w hX, fun w => c_rof _ _ w (nI_bd _) hY⟩ hs hf hodd (heq.trans he)
          · have hB : rdecB s = false := by unfold rdecB; rw [h1, h2, h0, he]; rfl
            rw [(no hB).1, (no hB).2, rnone_f]
            exact rdecZT_gen s (d16 (rY s)) (d16 (mI (rY s) (rY s))) (d16 1) (d16 (sI (mI (rY s) (rY s)) 1)) (d16 DI) (d16 (mI DI (mI (rY s) (rY s)))) (d16 (pI (mI DI (mI (rY s) (rY s))) 1)) (d16 (vI (pI (mI DI (mI (rY s) (rY s))) 1))) (d16 (aI (rY s))) (d16 (rX s)) w ⟨hc h1, ho, h3, h4, h5, c_rD, h7, h8, h9, h10, hr h2⟩ hs hf hodd (heq.trans he)
  · rw [if_neg hs, if_neg hs, rnone_f]
    exact rdecL_gen s w ⟨trivial⟩ (fun h => hs (by omega))

end Go.Proofs.YtkeocdebfgcnnaaGreat

/- Numbers modulo a prime are the powers of one of them: shown by the factors of the prime without 1.
   2^255 - 19 is a prime, and each number modulo it but 0 is a power of 2. The order of the base point is a prime. -/
namespace Go.Proofs.YtkeocdebfgcnnaaGreat

def IsP (p : Nat) : Prop := 1 < p ∧ ∀ d, d ∣ p → d = 1 ∨ d = p

/-- Powers modulo m, by squares; f bits. -/
def pmf (m : Nat) : Nat → Nat → Nat → Nat
  | 0, _, _ => 1 % m
  | f + 1, a, e => pmf m f (a * a % m) (e / 2) * a ^ (e % 2) % m

theorem pmf_eq (m : Nat) : ∀ (f a e : Nat), e < 2 ^ f → pmf m f a e = a ^ e % m
  | 0, a, e, h => by
    have : e = 0 := by simp at h; exact h
    subst this
    rfl
  | f + 1, a, e, h => by
    have h2 : e / 2 < 2 ^ f := by rw [Nat.pow_succ] at h; omega
    unfold pmf
    rw [pmf_eq m f _ _ h2, ← Nat.pow_mod, Nat.mod_mul_mod, ← Nat.pow_two, ← Nat.pow_mul, ← Nat.pow_add, show 2 * (e / 2) + e % 2 = e by omega]

theorem one_pow_mod {n x : Nat} (hn : 1 < n) (h : x % n = 1) (k : Nat) : x ^ k % n = 1 := by
  rw [Nat.pow_mod, h, Nat.one_pow, Nat.mod_eq_of_lt hn]

theorem mul_one_mod {n x y : Nat} (h : x % n = 1) : x * y % n = y % n := by
  rw [Nat.mul_mod, h, Nat.one_mul, Nat.mod_mod]

theorem pow_gcd {n g : Nat} (hn : 1 < n) (d e : Nat) : g ^ d % n = 1 → g ^ e % n = 1 → g ^ Nat.gcd d e % n = 1 := by
  induction d, e using Nat.gcd.induction with
  | H0 e => intro _ h; rwa [Nat.gcd_zero_left]
  | H1 d e _ ih =>
    intro h1 h2
    rw [Nat.gcd_rec]
    refine ih ?_ h1
    have e1 : g ^ e = (g ^ d) ^ (e / d) * g ^ (e % d) := by rw [← Nat.pow_mul, ← Nat.pow_add, Nat.div_add_mod]
    rw [e1, mul_one_mod (one_pow_mod hn h1 _)] at h2
    exact h2

def prod : List Nat → Nat
  | [] => 1
  | x :: l => x * prod l

theorem prod_coprime {m : Nat} : ∀ (l : List Nat), (∀ x ∈ l, Nat.Coprime x m) → Nat.Coprime (prod l) m
  | [], _ => Nat.coprime_one_left m
  | x :: l, h => Nat.Coprime.mul_left (h x (List.mem_cons_self)) (prod_coprime l fun y hy => h y (List.mem_cons_of_mem _ hy))

theorem divides_part {d N : Nat} (l : List Nat) (hl : ∀ x ∈ l, IsP x) (hN : prod l = N) (hd : d ∣ N) (hne : d ≠ N) : ∃ x ∈ l, d ∣ N / x := by
  obtain ⟨m, hm⟩ := hd
  by_cases h : ∃ x ∈ l, x ∣ m
  · obtain ⟨x, hx, y, hy⟩ := h
    refine ⟨x, hx, y, ?_⟩
    have hx0 : 0 < x := by have := (hl x hx).1; omega
    rw [hm, hy, Nat.mul_left_comm, Nat.mul_div_cancel_left _ hx0]
  · exfalso
    have hc : ∀ x ∈ l, Nat.Coprime x m := fun x hx => by
      rcases (hl x hx).2 _ (Nat.gcd_dvd_left x m) with h1 | h1
      · exact h1
      · exact absurd ⟨x, hx, h1 ▸ Nat.gcd_dvd_right x m⟩ h
    have hp := prod_coprime l hc
    rw [hN] at hp
    have : m ∣ Nat.gcd N m := Nat.dvd_gcd ⟨d, by rw [hm, Nat.mul_comm]⟩ (Nat.dvd_refl m)
    rw [hp] at this
    have m1 : m = 1 := Nat.dvd_one.1 this
    rw [m1, Nat.mul_one] at hm
    exact hne hm.symm

theorem pigeon : ∀ (n : Nat) (f : Nat → Nat), (∀ i, i < n → f i < n) → (∀ i j, i < n → j < n → f i = f j → i = j) → ∀ y, y < n → ∃ i, i < n ∧ f i = y
  | 0, _, _, _, y, hy => by omega
  | n + 1, f, hf, hi, y, hy => by
    by_cases hl : ∃ i, i < n ∧ f i = n
    · obtain ⟨i0, hi0, he0⟩ := hl
      have hfn : f n < n := by
        have h1 := hf n (by omega)
        have h2 : f n ≠ n := fun h => by
          have := hi n i0 (by omega) (by omega) (h.trans he0.symm)
          omega
        omega
      have ih := pigeon n (fun i => if i = i0 then f n else f i) (fun i h => by
        by_cases e : i = i0
        · simp only [e, if_true]; exact hfn
        · simp only [e, if_false]
          have h1 := hf i (by omega)
          have h2 : f i ≠ n := fun h3 => e (hi i i0 (by omega) (by omega) (h3.trans he0.symm))
          omega) (fun i j h1 h2 h3 => by
        by_cases e1 : i = i0
        · by_cases e2 : j = i0
          · omega
          · simp only [e1, e2, if_true, if_false] at h3
            have := hi n j (by omega) (by omega) h3
            omega
        · by_cases e2 : j = i0
          · simp only [e1, e2, if_true, if_false] at h3
            have := hi i n (by omega) (by omega) h3
            omega
          · simp only [e1, e2, if_false] at h3
            exact hi i j (by omega) (by omega) h3)
      by_cases hyn : y = n
      · exact ⟨i0, by omega, by omega⟩
      · obtain ⟨i, h1, h2⟩ := ih y (by omega)
        by_cases e : i = i0
        · simp only [e, if_true] at h2
          exact ⟨n, by omega, h2⟩
        · simp only [e, if_false] at h2
          exact ⟨i, by omega, h2⟩
    · have ih := pigeon n f (fun i h => by
        have h1 := hf i (by omega)
        have h2 : f i ≠ n := fun h3 => hl ⟨i, h, h3⟩
        omega) (fun i j h1 h2 h3 => hi i j (by omega) (by omega) h3)
      by_cases hfn : f n = n
      · by_cases hyn : y = n
        · exact ⟨n, by omega, by omega⟩
        · obtain ⟨i, h1, h2⟩ := ih y (by omega)
          exact ⟨i, by omega, h2⟩
      · obtain ⟨i, h1, h2⟩ := ih (f n) (by have := hf n (by omega); omega)
        have := hi i n (by omega) (by omega) h2
        omega

/-- Each number below n but 0 is a power of g. -/
structure Gen (n g : Nat) : Prop where
  gt : 1 < n
  per : g ^ (n - 1) % n = 1
  all : ∀ a, 0 < a → a < n → ∃ i, g ^ i % n = a

theorem gen_of {n g : Nat} (hn : 1 < n) (l : List Nat) (hl : ∀ x ∈ l, IsP x) (hN : prod l = n - 1) (hg : g ^ (n - 1) % n = 1) (ho : ∀ x ∈ l, g ^ ((n - 1) / x) % n ≠ 1) : Gen n g := by
  have hord : ∀ k, 0 < k → k < n - 1 → g ^ k % n ≠ 1 := by
    intro k h0 hk he
    have h1 := pow_gcd hn k (n - 1) he hg
    have h2 : Nat.gcd k (n - 1) ∣ n - 1 := Nat.gcd_dvd_right _ _
    have h3 : Nat.gcd k (n - 1) ≤ k := Nat.le_of_dvd h0 (Nat.gcd_dvd_left _ _)
    obtain ⟨x, hx, y, hy⟩ := divides_part l hl hN h2 (by omega)
    refine ho x hx ?_
    rw [hy, Nat.pow_mul]
    exact one_pow_mod hn h1 y
  have hinj : ∀ i j, i < j → j < n - 1 → g ^ i % n ≠ g ^ j % n := by
    intro i j hij hj he
    refine hord (j - i) (by omega) (by omega) ?_
    have e1 : g ^ i * g ^ (n - 1 - i) % n = 1 := by rw [← Nat.pow_add, show i + (n - 1 - i) = n - 1 by omega, hg]
    have e2 : g ^ j * g ^ (n - 1 - i) % n = g ^ (j - i) % n := by
      rw [← Nat.pow_add, show j + (n - 1 - i) = (n - 1) + (j - i) by omega, Nat.pow_add, mul_one_mod hg]
    rw [← e2, Nat.mul_mod, ← he, ← Nat.mul_mod, e1]
  have hpos : ∀ i, i < n - 1 → 0 < g ^ i % n := by
    intro i hi
    apply Nat.pos_of_ne_zero
    intro h0
    have e1 : g ^ i * g ^ (n - 1 - i) % n = 1 := by rw [← Nat.pow_add, show i + (n - 1 - i) = n - 1 by omega, hg]
    rw [Nat.mul_mod, h0, Nat.zero_mul, Nat.zero_mod] at e1
    cases e1
  refine ⟨hn, hg, fun a h0 ha => ?_⟩
  obtain ⟨i, h1, h2⟩ := pigeon (n - 1) (fun i => g ^ i % n - 1) (fun i hi => by
    have := hpos i hi
    have := Nat.mod_lt (g ^ i) (show 0 < n by omega)
    show g ^ i % n - 1 < n - 1
    omega) (fun i j hi hj he => by
    have h1 := hpos i hi
    have h2 := hpos j hj
    have he2 : g ^ i % n - 1 = g ^ j % n - 1 := he
    have he' : g ^ i % n = g ^ j % n := by omega
    by_cases e : i = j
    · exact e
    · exfalso
      by_cases hlt : i < j
      · exact hinj i j hlt hj he'
      · exact hinj j i (by omega) hi he'.symm) (a - 1) (by omega)
  refine ⟨i, ?_⟩
  have := hpos i h1
  have h3 : g ^ i % n - 1 = a - 1 := h2
  omega

theorem Gen.isP {n g : Nat} (h : Gen n g) : IsP n := by
  obtain ⟨hn, hg, ha⟩ := h
  refine ⟨hn, fun d hd => ?_⟩
  by_cases e : d = n
  · exact .inr e
  · left
    have hle := Nat.le_of_dvd (by omega) hd
    have h0 : 0 < d := Nat.pos_of_ne_zero fun h => by
      subst h
      have := Nat.eq_zero_of_zero_dvd hd
      omega
    obtain ⟨i, hi⟩ := ha d h0 (by omega)
    have e1 : g ^ i * g ^ ((n - 1) * (i + 1) - i) % n = 1 := by
      have h2 : i ≤ (n - 1) * (i + 1) := by
        have : 1 * (i + 1) ≤ (n - 1) * (i + 1) := Nat.mul_le_mul_right _ (by omega)
        omega
      rw [← Nat.pow_add, show i + ((n - 1) * (i + 1) - i) = (n - 1) * (i + 1) by omega, Nat.pow_mul]
      exact one_pow_mod hn hg _
    have e2 : d ∣ g ^ i * g ^ ((n - 1) * (i + 1) - i) := by
      refine Nat.dvd_trans ?_ (Nat.dvd_mul_right _ _)
      rw [← Nat.div_add_mod (g ^ i) n, hi]
      exact (Nat.dvd_add_right (Nat.dvd_trans hd (Nat.dvd_mul_right _ _))).2 (Nat.dvd_refl d)
    have e3 : d ∣ 1 := by
      rw [← e1]
      exact (Nat.dvd_mod_iff hd).2 e2
    exact Nat.dvd_one.1 e3

theorem gen_by {n g : Nat} (f : Nat) (l : List Nat) (hn : 1 < n) (hl : ∀ x ∈ l, IsP x) (hN : prod l = n - 1) (hf : n - 1 < 2 ^ f) (hg : pmf n f g (n - 1) = 1) (ho : (l.all fun x => !Nat.beq (pmf n f g ((n - 1) / x)) 1) = true) : Gen n g := by
  refine gen_of hn l hl hN (by rw [← pmf_eq n f g _ hf]; exact hg) fun x hx he => ?_
  have h := List.all_eq_true.1 ho x hx
  rw [pmf_eq n f g _ (Nat.lt_of_le_of_lt (Nat.div_le_self _ _) hf), he] at h
  cases h

theorem isP2 : IsP 2 := ⟨by decide, fun d h => by
  have := Nat.le_of_dvd (by decide) h
  have : d ≠ 0 := fun e => by subst e; have := Nat.eq_zero_of_zero_dvd h; omega
  omega⟩
theorem all_nil {Q : Nat → Prop} : ∀ x ∈ ([] : List Nat), Q x := fun _ h => by cases h
theorem all_cons {Q : Nat → Prop} {a : Nat} {l : List Nat} (h : Q a) (hl : ∀ x ∈ l, Q x) : ∀ x ∈ a :: l, Q x := fun x hx => by
  rcases List.mem_cons.1 hx with e | e
  · rw [e]; exact h
  · exact hl x e

theorem isP_0 : IsP 3 := Gen.isP (g := 2) (gen_by 2 [2] (by decide) (all_cons isP2 all_nil) (by decide +kernel) (by decide +kernel) (by decide +kernel) (by decide +kernel))
theorem isP_1 : IsP 17 := Gen.isP (g := 3) (gen_by 5 [2, 2, 2, 2] (by decide) (all_cons isP2 (all_cons isP2 (all_cons isP2 (all_cons isP2 all_nil)))) (by decide +kernel) (by decide +kernel) (by decide +kernel) (by decide +kernel))
theorem isP_2 : IsP 7 := Gen.isP (g := 3) (gen_by 3 [2, 3] (by decide) (all_cons isP2 (all_cons isP_0 all_nil)) (by decide +kernel) (by decide +kernel) (by decide +kernel) (by decide +kernel))
theorem isP_3 : IsP 239 := Gen.isP (g := 7) (gen_by 8 [2, 7, 17] (by decide) (all_cons isP2 (all_cons isP_2 (all_cons isP_1 all_nil))) (by decide +kernel) (by decide +kernel) (by decide +kernel) (by decide +kernel))
theorem isP_4 : IsP 479 := Gen.isP (g := 13) (gen_by 9 [2, 239] (by decide) (all_cons isP2 (all_cons isP_3 all_nil)) (by decide +kernel) (by decide +kernel) (by decide +kernel) (by decide +kernel))
theorem isP_5 : IsP 32573 := Gen.isP (g := 2) (gen_by 15 [2, 2, 17, 479] (by decide) (all_cons isP2 (all_cons isP2 (all_cons isP_1 (all_cons isP_4 all_nil)))) (by decide +kernel) (by decide +kernel) (by decide +kernel) (by decide +kernel))
theorem isP_6 : IsP 65147 := Gen.isP (g := 2) (gen_by 16 [2, 32573] (by decide) (all_cons isP2 (all_cons isP_5 all_nil)) (by decide +kernel) (by decide +kernel) (by decide +kernel) (by decide +kernel))
theorem isP_7 : IsP 5 := Gen.isP (g := 2) (gen_by 3 [2, 2] (by decide) (all_cons isP2 (all_cons isP2 all_nil)) (by decide +kernel) (by decide +kernel) (by decide +kernel) (by decide +kernel))
theorem isP_8 : IsP 11 := Gen.isP (g := 2) (gen_by 4 [2, 5] (by decide) (all_cons isP2 (all_cons isP_7 all_nil)) (by decide +kernel) (by decide +kernel) (by decide +kernel) (by decide +kernel))
theorem isP_9 : IsP 353 := Gen.isP (g := 3) (gen_by 9 [2, 2, 2, 2, 2, 11] (by decide) (all_cons isP2 (all_cons isP2 (all_cons isP2 (all_cons isP2 (all_cons isP2 (all_cons isP_8 all_nil)))))) (by decide +kernel) (by decide +kernel) (by decide +kernel) (by decide +kernel))
theorem isP_10 : IsP 29 := Gen.isP (g := 2) (gen_by 5 [2, 2, 7] (by decide) (all_cons isP2 (all_cons isP2 (all_cons isP_2 all_nil))) (by decide +kernel) (by decide +kernel) (by decide +kernel) (by decide +kernel))
theorem isP_11 : IsP 59 := Gen.isP (g := 2) (gen_by 6 [2, 29] (by decide) (all_cons isP2 (all_cons isP_10 all_nil)) (by decide +kernel) (by decide +kernel) (by decide +kernel) (by decide +kernel))
theorem isP_12 : IsP 487 := Gen.isP (g := 3) (gen_by 9 [2, 3, 3, 3, 3, 3] (by decide) (all_cons isP2 (all_cons isP_0 (all_cons isP_0 (all_cons isP_0 (all_cons isP_0 (all_cons isP_0 all_nil)))))) (by decide +kernel) (by decide +kernel) (by decide +kernel) (by decide +kernel))
theorem isP_13 : IsP 57467 := Gen.isP (g := 2) (gen_by 16 [2, 59, 487] (by decide) (all_cons isP2 (all_cons isP_11 (all_cons isP_12 all_nil))) (by decide +kernel) (by decide +kernel) (by decide +kernel) (by decide +kernel))
theorem isP_14 : IsP 13 := Gen.isP (g := 2) (gen_by 4 [2, 2, 3] (by decide) (all_cons isP2 (all_cons isP2 (all_cons isP_0 all_nil))) (by decide +kernel) (by decide +kernel) (by decide +kernel) (by decide +kernel))
theorem isP_15 : IsP 131 := Gen.isP (g := 2) (gen_by 8 [2, 5, 13] (by decide) (all_cons isP2 (all_cons isP_7 (all_cons isP_14 all_nil))) (by decide +kernel) (by decide +kernel) (by decide +kernel) (by decide +kernel))
theorem isP_16 : IsP 132049 := Gen.isP (g := 26) (gen_by 18 [2, 2, 2, 2, 3, 3, 7, 131] (by decide) (all_cons isP2 (all_cons isP2 (all_cons isP2 (all_cons isP2 (all_cons isP_0 (all_cons isP_0 (all_cons isP_2 (all_cons isP_15 all_nil)))))))) (by decide +kernel) (by decide +kernel) (by decide +kernel) (by decide +kernel))
theorem isP_17 : IsP 43 := Gen.isP (g := 3) (gen_by 6 [2, 3, 7] (by decide) (all_cons isP2 (all_cons isP_0 (all_cons isP_2 all_nil))) (by decide +kernel) (by decide +kernel) (by decide +kernel) (by decide +kernel))
theorem isP_18 : IsP 23 := Gen.isP (g := 5) (gen_by 5 [2, 11] (by decide) (all_cons isP2 (all_cons isP_8 all_nil)) (by decide +kernel) (by decide +kernel) (by decide +kernel) (by decide +kernel))
theorem isP_19 : IsP 3727 := Gen.isP (g := 3) (gen_by 12 [2, 3, 3, 3, 3, 23] (by decide) (all_cons isP2 (all_cons isP_0 (all_cons isP_0 (all_cons isP_0 (all_cons isP_0 (all_cons isP_18 all_nil)))))) (by decide +kernel) (by decide +kernel) (by decide +kernel) (by decide +kernel))
theorem isP_20 : IsP 1923133 := Gen.isP (g := 2) (gen_by 21 [2, 2, 3, 43, 3727] (by decide) (all_cons isP2 (all_cons isP2 (all_cons isP_0 (all_cons isP_17 (all_cons isP_19 all_nil))))) (by decide +kernel) (by decide +kernel) (by decide +kernel) (by decide +kernel))
theorem isP_21 : IsP 31 := Gen.isP (g := 3) (gen_by 5 [2, 3, 5] (by decide) (all_cons isP2 (all_cons isP_0 (all_cons isP_7 all_nil))) (by decide +kernel) (by decide +kernel) (by decide +kernel) (by decide +kernel))
theorem isP_22 : IsP 53 := Gen.isP (g := 2) (gen_by 6 [2, 2, 13] (by decide) (all_cons isP2 (all_cons isP2 (all_cons isP_14 all_nil))) (by decide +kernel) (by decide +kernel) (by decide +kernel) (by decide +kernel))
theorem isP_23 : IsP 107 := Gen.isP (g := 2) (gen_by 7 [2, 53] (by decide) (all_cons isP2 (all_cons isP_22 all_nil)) (by decide +kernel) (by decide +kernel) (by decide +kernel) (by decide +kernel))
theorem isP_24 : IsP 37 := Gen.isP (g := 2) (gen_by 6 [2, 2, 3, 3] (by decide) (all_cons isP2 (all_cons isP2 (all_cons isP_0 (all_cons isP_0 all_nil)))) (by decide +kernel) (by decide +kernel) (by decide +kernel) (by decide +kernel))
theorem isP_25 : IsP 223 := Gen.isP (g := 3) (gen_by 8 [2, 3, 37] (by decide) (all_cons isP2 (all_cons isP_0 (all_cons isP_24 all_nil))) (by decide +kernel) (by decide +kernel) (by decide +kernel) (by decide +kernel))
theorem isP_26 : IsP 173 := Gen.isP (g := 2) (gen_by 8 [2, 2, 43] (by decide) (all_cons isP2 (all_cons isP2 (all_cons isP_17 all_nil))) (by decide +kernel) (by decide +kernel) (by decide +kernel) (by decide +kernel))
theorem isP_27 : IsP 4153 := Gen.isP (g := 5) (gen_by 13 [2, 2, 2, 3, 173] (by decide) (all_cons isP2 (all_cons isP2 (all_cons isP2 (all_cons isP_0 (all_cons isP_26 all_nil))))) (by decide +kernel) (by decide +kernel) (by decide +kernel) (by decide +kernel))
theorem isP_28 : IsP 41 := Gen.isP (g := 6) (gen_by 6 [2, 2, 2, 5] (by decide) (all_cons isP2 (all_cons isP2 (all_cons isP2 (all_cons isP_7 all_nil)))) (by decide +kernel) (by decide +kernel) (by decide +kernel) (by decide +kernel))
theorem isP_29 : IsP 1723 := Gen.isP (g := 3) (gen_by 11 [2, 3, 7, 41] (by decide) (all_cons isP2 (all_cons isP_0 (all_cons isP_2 (all_cons isP_28 all_nil)))) (by decide +kernel) (by decide +kernel) (by decide +kernel) (by decide +kernel))
theorem isP_30 : IsP 430751 := Gen.isP (g := 17) (gen_by 19 [2, 5, 5, 5, 1723] (by decide) (all_cons isP2 (all_cons isP_7 (all_cons isP_7 (all_cons isP_7 (all_cons isP_29 all_nil))))) (by decide +kernel) (by decide +kernel) (by decide +kernel) (by decide +kernel))
theorem isP_31 : IsP 31757755568855353 := Gen.isP (g := 10) (gen_by 55 [2, 2, 2, 3, 31, 107, 223, 4153, 430751] (by decide) (all_cons isP2 (all_cons isP2 (all_cons isP2 (all_cons isP_0 (all_cons isP_21 (all_cons isP_23 (all_cons isP_25 (all_cons isP_27 (all_cons isP_30 all_nil))))))))) (by decide +kernel) (by decide +kernel) (by decide +kernel) (by decide +kernel))
theorem isP_32 : IsP 19 := Gen.isP (g := 2) (gen_by 5 [2, 3, 3] (by decide) (all_cons isP2 (all_cons isP_0 (all_cons isP_0 all_nil))) (by decide +kernel) (by decide +kernel) (by decide +kernel) (by decide +kernel))
theorem isP_33 : IsP 83 := Gen.isP (g := 2) (gen_by 7 [2, 41] (by decide) (all_cons isP2 (all_cons isP_28 all_nil)) (by decide +kernel) (by decide +kernel) (by decide +kernel) (by decide +kernel))
theorem isP_34 : IsP 9463 := Gen.isP (g := 3) (gen_by 14 [2, 3, 19, 83] (by decide) (all_cons isP2 (all_cons isP_0 (all_cons isP_32 (all_cons isP_33 all_nil)))) (by decide +kernel) (by decide +kernel) (by decide +kernel) (by decide +kernel))
theorem isP_35 : IsP 37853 := Gen.isP (g := 2) (gen_by 16 [2, 2, 9463] (by decide) (all_cons isP2 (all_cons isP2 (all_cons isP_34 all_nil))) (by decide +kernel) (by decide +kernel) (by decide +kernel) (by decide +kernel))
theorem isP_36 : IsP 75707 := Gen.isP (g := 2) (gen_by 17 [2, 37853] (by decide) (all_cons isP2 (all_cons isP_35 all_nil)) (by decide +kernel) (by decide +kernel) (by decide +kernel) (by decide +kernel))
theorem isP_37 : IsP 47 := Gen.isP (g := 5) (gen_by 6 [2, 23] (by decide) (all_cons isP2 (all_cons isP_18 all_nil)) (by decide +kernel) (by decide +kernel) (by decide +kernel) (by decide +kernel))
theorem isP_38 : IsP 127 := Gen.isP (g := 3) (gen_by 7 [2, 3, 3, 7] (by decide) (all_cons isP2 (all_cons isP_0 (all_cons isP_0 (all_cons isP_2 all_nil)))) (by decide +kernel) (by decide +kernel) (by decide +kernel) (by decide +kernel))
theorem isP_39 : IsP 103 := Gen.isP (g := 5) (gen_by 7 [2, 3, 17] (by decide) (all_cons isP2 (all_cons isP_0 (all_cons isP_1 all_nil))) (by decide +kernel) (by decide +kernel) (by decide +kernel) (by decide +kernel))
theorem isP_40 : IsP 991 := Gen.isP (g := 6) (gen_by 10 [2, 3, 3, 5, 11] (by decide) (all_cons isP2 (all_cons isP_0 (all_cons isP_0 (all_cons isP_7 (all_cons isP_8 all_nil))))) (by decide +kernel) (by decide +kernel) (by decide +kernel) (by decide +kernel))
theorem isP_41 : IsP 8574133 := Gen.isP (g := 2) (gen_by 24 [2, 2, 3, 7, 103, 991] (by decide) (all_cons isP2 (all_cons isP2 (all_cons isP_0 (all_cons isP_2 (all_cons isP_39 (all_cons isP_40 all_nil)))))) (by decide +kernel) (by decide +kernel) (by decide +kernel) (by decide +kernel))
theorem isP_42 : IsP 1919519569386763 := Gen.isP (g := 2) (gen_by 51 [2, 3, 7, 19, 47, 47, 127, 8574133] (by decide) (all_cons isP2 (all_cons isP_0 (all_cons isP_2 (all_cons isP_32 (all_cons isP_37 (all_cons isP_37 (all_cons isP_38 (all_cons isP_41 all_nil)))))))) (by decide +kernel) (by decide +kernel) (by decide +kernel) (by decide +kernel))
theorem isP_43 : IsP 2437 := Gen.isP (g := 2) (gen_by 12 [2, 2, 3, 7, 29] (by decide) (all_cons isP2 (all_cons isP2 (all_cons isP_0 (all_cons isP_2 (all_cons isP_10 all_nil))))) (by decide +kernel) (by decide +kernel) (by decide +kernel) (by decide +kernel))
theorem isP_44 : IsP 97 := Gen.isP (g := 5) (gen_by 7 [2, 2, 2, 2, 2, 3] (by decide) (all_cons isP2 (all_cons isP2 (all_cons isP2 (all_cons isP2 (all_cons isP2 (all_cons isP_0 all_nil)))))) (by decide +kernel) (by decide +kernel) (by decide +kernel) (by decide +kernel))
theorem isP_45 : IsP 419 := Gen.isP (g := 2) (gen_by 9 [2, 11, 19] (by decide) (all_cons isP2 (all_cons isP_8 (all_cons isP_32 all_nil))) (by decide +kernel) (by decide +kernel) (by decide +kernel) (by decide +kernel))
theorem isP_46 : IsP 569003 := Gen.isP (g := 2) (gen_by 20 [2, 7, 97, 419] (by decide) (all_cons isP2 (all_cons isP_2 (all_cons isP_44 (all_cons isP_45 all_nil)))) (by decide +kernel) (by decide +kernel) (by decide +kernel) (by decide +kernel))
theorem isP_47 : IsP 2773320623 := Gen.isP (g := 5) (gen_by 32 [2, 2437, 569003] (by decide) (all_cons isP2 (all_cons isP_43 (all_cons isP_46 all_nil))) (by decide +kernel) (by decide +kernel) (by decide +kernel) (by decide +kernel))
theorem isP_48 : IsP 72106336199 := Gen.isP (g := 7) (gen_by 37 [2, 13, 2773320623] (by decide) (all_cons isP2 (all_cons isP_14 (all_cons isP_47 all_nil))) (by decide +kernel) (by decide +kernel) (by decide +kernel) (by decide +kernel))
theorem isP_49 : IsP 75445702479781427272750846543864801 := Gen.isP (g := 7) (gen_by 116 [2, 2, 2, 2, 2, 3, 3, 5, 5, 75707, 1919519569386763, 72106336199] (by decide) (all_cons isP2 (all_cons isP2 (all_cons isP2 (all_cons isP2 (all_cons isP2 (all_cons isP_0 (all_cons isP_0 (all_cons isP_7 (all_cons isP_7 (all_cons isP_36 (all_cons isP_42 (all_cons isP_48 all_nil)))))))))))) (by decide +kernel) (by decide +kernel) (by decide +kernel) (by decide +kernel))
theorem isP_50 : IsP 74058212732561358302231226437062788676166966415465897661863160754340907 := Gen.isP (g := 2) (gen_by 236 [2, 3, 353, 57467, 132049, 1923133, 31757755568855353, 75445702479781427272750846543864801] (by decide) (all_cons isP2 (all_cons isP_0 (all_cons isP_9 (all_cons isP_13 (all_cons isP_16 (all_cons isP_20 (all_cons isP_31 (all_cons isP_49 all_nil)))))))) (by decide +kernel) (by decide +kernel) (by decide +kernel) (by decide +kernel))
theorem genP : Gen 57896044618658097711785492504343953926634992332820282019728792003956564819949 2 := gen_by 255 [2, 2, 3, 65147, 74058212732561358302231226437062788676166966415465897661863160754340907] (by decide) (all_cons isP2 (all_cons isP2 (all_cons isP_0 (all_cons isP_6 (all_cons isP_50 all_nil))))) (by decide +kernel) (by decide +kernel) (by decide +kernel) (by decide +kernel)

end Go.Proofs.YtkeocdebfgcnnaaGreat

/- The numbers modulo the prime as a field; the curve's points and their sum: a group. -/
namespace Go.Proofs.YtkeocdebfgcnnaaGreat

abbrev Fq := Fin pN

theorem genQ : Gen pN 2 := genP
theorem primeP : IsP pN := genQ.isP

theorem dvd_or {a b : Nat} (h : pN ∣ a * b) : pN ∣ a ∨ pN ∣ b := by
  by_cases ha : pN ∣ a
  · exact .inl ha
  · right
    have hg : Nat.Coprime pN a := by
      rcases primeP.2 _ (Nat.gcd_dvd_left pN a) with h1 | h1
      · exact h1
      · exact absurd (h1 ▸ Nat.gcd_dvd_right pN a) ha
    exact Nat.Coprime.dvd_of_dvd_mul_left hg h

theorem fq_zero {a : Fq} (h : pN ∣ a.val) : a = 0 := by
  apply Fin.ext
  have h1 := Nat.mod_eq_zero_of_dvd h
  rw [Nat.mod_eq_of_lt a.isLt] at h1
  rw [h1]
  rfl

theorem fq_mul {a b : Fq} (h : a * b = 0) : a = 0 ∨ b = 0 := by
  have h1 : a.val * b.val % pN = 0 := by
    have := congrArg Fin.val h
    rw [Fin.val_mul] at this
    exact this
  rcases dvd_or (Nat.dvd_of_mod_eq_zero h1) with h2 | h2
  · exact .inl (fq_zero h2)
  · exact .inr (fq_zero h2)

theorem fq_ne {a b : Fq} (ha : a ≠ 0) (hb : b ≠ 0) : a * b ≠ 0 := fun h => by
  rcases fq_mul h with h | h
  · exact ha h
  · exact hb h

theorem fermatN {a : Nat} (h0 : 0 < a) (h1 : a < pN) : a ^ (pN - 1) % pN = 1 := by
  obtain ⟨i, hi⟩ := genQ.all a h0 h1
  rw [← hi, ← Nat.pow_mod, ← Nat.pow_mul, Nat.mul_comm, Nat.pow_mul]
  exact one_pow_mod genQ.gt genQ.per i

/-- What a number is to be multiplied by to make 1. -/
def finv (a : Fq) : Fq := ⟨pmf pN 255 a.val (pN - 2) % pN, Nat.mod_lt _ (by decide)⟩

theorem finv_mul {a : Fq} (h : a ≠ 0) : a * finv a = 1 := by
  have h0 : 0 < a.val := by
    refine Nat.pos_of_ne_zero fun e => h ?_
    apply Fin.ext
    rw [e]
    rfl
  apply Fin.ext
  rw [Fin.val_mul]
  show a.val * (pmf pN 255 a.val (pN - 2) % pN) % pN = 1
  rw [pmf_eq pN 255 a.val _ (by decide), Nat.mod_mod, Nat.mul_mod_mod]
  have e : a.val * a.val ^ (pN - 2) = a.val ^ (pN - 1) := by
    rw [show pN - 1 = (pN - 2) + 1 by decide, Nat.pow_succ, Nat.mul_comm]
  rw [e]
  exact fermatN h0 a.isLt

/-- The curve's constant. -/
def dE : Fq := 37095705934669439343138083508754565189542113879843219016388785533085940283555
/-- A root of -1. -/
def iE : Fq := 19681161376707505956807079304988542015446066515923890162744021073123829784752
theorem iE_sq : iE * iE = -1 := by decide +kernel
theorem dE_half : pmf pN 255 dE.val ((pN - 1) / 2) = pN - 1 := by decide +kernel

theorem not_sq (z : Fq) : z * z ≠ dE := by
  intro h
  have h1 : z.val * z.val % pN = dE.val := by
    have := congrArg Fin.val h
    rwa [Fin.val_mul] at this
  have h2 := dE_half
  rw [pmf_eq pN 255 _ _ (by decide), ← h1, ← Nat.pow_mod, ← Nat.pow_two, ← Nat.pow_mul, show 2 * ((pN - 1) / 2) = pN - 1 by decide] at h2
  by_cases hz : z.val = 0
  · rw [hz, Nat.zero_pow (by decide)] at h2
    revert h2
    decide
  · rw [fermatN (Nat.pos_of_ne_zero hz) z.isLt] at h2
    revert h2
    decide

theorem two_ne : (2 : Fq) ≠ 0 := by decide +kernel
theorem one_ne : (1 : Fq) ≠ 0 := by decide +kernel

/-- Is this a point of the curve? -/
def On (x y : Fq) : Prop := y * y - x * x = 1 + dE * (x * x * (y * y))

theorem sq_key {i d x1 y1 x2 y2 e : Fq} (hi : i * i = -1) (he : e * e = 1) (h1 : y1 * y1 - x1 * x1 = 1 + d * (x1 * x1 * (y1 * y1))) (h2 : y2 * y2 - x2 * x2 = 1 + d * (x2 * x2 * (y2 * y2))) (h : d * (x1 * x2 * (y1 * y2)) = e) :
    (i * (i * x1 + e * y1)) * (i * (i * x1 + e * y1)) = d * ((i * x1 * y1 * (i * x2 + y2)) * (i * x1 * y1 * (i * x2 + y2))) := by
  grind

theorem fq_cancel {a b c : Fq} (hc : c ≠ 0) (h : a * c = b * c) : a = b := by
  have h1 : (a - b) * c = 0 := by clear hc; grind
  rcases fq_mul h1 with h2 | h2
  · clear h h1 hc
    grind
  · exact absurd h2 hc

theorem no_root {A B : Fq} (h : A * A = dE * (B * B)) : B = 0 := by
  refine Classical.byContradiction fun hB => ?_
  have hi := finv_mul hB
  refine not_sq (A * finv B) ?_
  generalize finv B = c at hi ⊢
  grind

theorem nn (e : Fq) : -e * -e = e * e := by grind
theorem z4 {d x1 y1 x2 y2 : Fq} (h : x1 = 0) : d * (x1 * x2 * (y1 * y2)) = 0 := by rw [h]; grind
theorem z5 {d x1 y1 x2 y2 : Fq} (h : y1 = 0) : d * (x1 * x2 * (y1 * y2)) = 0 := by rw [h]; grind
theorem z6 {d x1 y1 x2 y2 : Fq} (h : y2 = 0) : d * (x1 * x2 * (y1 * y2)) = 0 := by rw [h]; grind
theorem z7 {i x y : Fq} (h1 : i * x + y = 0) (h2 : i * x + -y = 0) : 2 * y = 0 := by grind
theorem n1 (d x1 y1 x2 y2 : Fq) : d * (x1 * x2 * (y1 * -y2)) = -(d * (x1 * x2 * (y1 * y2))) := by grind
theorem n2 {d x y : Fq} (h : y * y - x * x = 1 + d * (x * x * (y * y))) : -y * -y - x * x = 1 + d * (x * x * (-y * -y)) := by rw [nn]; exact h
theorem n3 {a : Fq} (h : 1 + a = 0) : a = -1 := by grind
theorem n4 {a : Fq} (h : 1 - a = 0) : a = 1 := by grind
theorem n5 : (-1 : Fq) * -1 = 1 := by grind
theorem n6 : (1 : Fq) * 1 = 1 := by grind
theorem zz : (0 : Fq) * 0 = 0 := by grind

theorem den_ne {x1 y1 x2 y2 e : Fq} (h1 : On x1 y1) (h2 : On x2 y2) (he : e * e = 1) : dE * (x1 * x2 * (y1 * y2)) ≠ e := by
  intro h
  unfold On at h1 h2
  have k1 := no_root (sq_key iE_sq he h1 h2 h)
  have k2 := no_root (sq_key (i := iE) (e := -e) (y2 := -y2) iE_sq (by rw [nn]; exact he) h1 (n2 h2) (by rw [n1, h]))
  have he0 : e ≠ 0 := fun e0 => one_ne (by rw [← he, e0]; exact zz)
  have hx1 : x1 ≠ 0 := fun e0 => he0 (by rw [← h]; exact z4 e0)
  have hy1 : y1 ≠ 0 := fun e0 => he0 (by rw [← h]; exact z5 e0)
  have hy2 : y2 ≠ 0 := fun e0 => he0 (by rw [← h]; exact z6 e0)
  have hi : iE ≠ 0 := by decide +kernel
  have hw : iE * x1 * y1 ≠ 0 := fq_ne (fq_ne hi hx1) hy1
  rcases fq_mul k1 with h3 | h3
  · exact hw h3
  · rcases fq_mul k2 with h4 | h4
    · exact hw h4
    · rcases fq_mul (z7 h3 h4) with h5 | h5
      · exact two_ne h5
      · exact hy2 h5

theorem den_plus {x1 y1 x2 y2 : Fq} (h1 : On x1 y1) (h2 : On x2 y2) : 1 + dE * (x1 * x2 * (y1 * y2)) ≠ 0 := fun h => den_ne (e := -1) h1 h2 n5 (n3 h)
theorem den_minus {x1 y1 x2 y2 : Fq} (h1 : On x1 y1) (h2 : On x2 y2) : 1 - dE * (x1 * x2 * (y1 * y2)) ≠ 0 := fun h => den_ne (e := 1) h1 h2 n6 (n4 h)

/-- A point of the curve. -/
structure Pt where
  x : Fq
  y : Fq
  on : On x y

theorem Pt.ext {p q : Pt} (hx : p.x = q.x) (hy : p.y = q.y) : p = q := by
  cases p
  cases q
  simp only at hx hy
  subst hx
  subst hy
  rfl

theorem on_key {d x1 y1 x2 y2 X Y : Fq} (h1 : y1 * y1 - x1 * x1 = 1 + d * (x1 * x1 * (y1 * y1))) (h2 : y2 * y2 - x2 * x2 = 1 + d * (x2 * x2 * (y2 * y2))) (hX : X * (1 + d * (x1 * x2 * (y1 * y2))) = x1 * y2 + y1 * x2) (hY : Y * (1 - d * (x1 * x2 * (y1 * y2))) = y1 * y2 + x1 * x2) :
    (Y * Y - X * X) * ((1 + d * (x1 * x2 * (y1 * y2))) * (1 - d * (x1 * x2 * (y1 * y2))) * ((1 + d * (x1 * x2 * (y1 * y2))) * (1 - d * (x1 * x2 * (y1 * y2))))) = (1 + d * (X * X * (Y * Y))) * ((1 + d * (x1 * x2 * (y1 * y2))) * (1 - d * (x1 * x2 * (y1 * y2))) * ((1 + d * (x1 * x2 * (y1 * y2))) * (1 - d * (x1 * x2 * (y1 * y2))))) := by
  have a : (X * (1 + d * (x1 * x2 * (y1 * y2)))) * (X * (1 + d * (x1 * x2 * (y1 * y2)))) = (x1 * y2 + y1 * x2) * (x1 * y2 + y1 * x2) := by rw [hX]
  have b : (Y * (1 - d * (x1 * x2 * (y1 * y2)))) * (Y * (1 - d * (x1 * x2 * (y1 * y2)))) = (y1 * y2 + x1 * x2) * (y1 * y2 + x1 * x2) := by rw [hY]
  have key : (y1 * y2 + x1 * x2) * (y1 * y2 + x1 * x2) * ((1 + d * (x1 * x2 * (y1 * y2))) * (1 + d * (x1 * x2 * (y1 * y2)))) - (x1 * y2 + y1 * x2) * (x1 * y2 + y1 * x2) * ((1 - d * (x1 * x2 * (y1 * y2))) * (1 - d * (x1 * x2 * (y1 * y2)))) = (1 + d * (x1 * x2 * (y1 * y2))) * (1 - d * (x1 * x2 * (y1 * y2))) * ((1 + d * (x1 * x2 * (y1 * y2))) * (1 - d * (x1 * x2 * (y1 * y2)))) + d * ((x1 * y2 + y1 * x2) * (x1 * y2 + y1 * x2) * ((y1 * y2 + x1 * x2) * (y1 * y2 + x1 * x2))) := by
    clear hX hY a b
    grind
  rw [← a, ← b] at key
  clear hX hY a b h1 h2
  generalize 1 + d * (x1 * x2 * (y1 * y2)) = u at *
  generalize 1 - d * (x1 * x2 * (y1 * y2)) = v at *
  grind

/-- The sum's coordinates. -/
def sx (p q : Pt) : Fq := (p.x * q.y + p.y * q.x) * finv (1 + dE * (p.x * q.x * (p.y * q.y)))
def sy (p q : Pt) : Fq := (p.y * q.y + p.x * q.x) * finv (1 - dE * (p.x * q.x * (p.y * q.y)))
theorem div_mul {a c : Fq} (hc : c ≠ 0) : a * finv c * c = a := by
  have h := finv_mul hc
  generalize finv c = b at *
  clear hc
  grind
theorem sx_mul (p q : Pt) : sx p q * (1 + dE * (p.x * q.x * (p.y * q.y))) = p.x * q.y + p.y * q.x := div_mul (den_plus p.on q.on)
theorem sy_mul (p q : Pt) : sy p q * (1 - dE * (p.x * q.x * (p.y * q.y))) = p.y * q.y + p.x * q.x := div_mul (den_minus p.on q.on)
theorem s_on (p q : Pt) : On (sx p q) (sy p q) := by
  have h := on_key p.on q.on (sx_mul p q) (sy_mul p q)
  have h1 := den_plus p.on q.on
  have h2 := den_minus p.on q.on
  exact fq_cancel (fq_ne (fq_ne h1 h2) (fq_ne h1 h2)) h
/-- The sum of two points. -/
def Pt.add (p q : Pt) : Pt := ⟨sx p q, sy p q, s_on p q⟩
/-- The zero point. -/
def zeroP : Pt := ⟨0, 1, by unfold On; decide +kernel⟩
theorem neg_on {x y : Fq} (h : On x y) : On (-x) y := by
  unfold On at *
  rw [nn]
  exact h
def Pt.neg (p : Pt) : Pt := ⟨-p.x, p.y, neg_on p.on⟩

theorem add_eq {p q r : Pt} (h1 : r.x * (1 + dE * (p.x * q.x * (p.y * q.y))) = p.x * q.y + p.y * q.x) (h2 : r.y * (1 - dE * (p.x * q.x * (p.y * q.y))) = p.y * q.y + p.x * q.x) : p.add q = r :=
  Pt.ext (fq_cancel (den_plus p.on q.on) ((sx_mul p q).trans h1.symm)) (fq_cancel (den_minus p.on q.on) ((sy_mul p q).trans h2.symm))

theorem c1 (d a b c e X : Fq) (h : X * (1 + d * (a * c * (b * e))) = a * e + b * c) : X * (1 + d * (c * a * (e * b))) = c * b + e * a := by grind
theorem c2 (d a b c e X : Fq) (h : X * (1 - d * (a * c * (b * e))) = b * e + a * c) : X * (1 - d * (c * a * (e * b))) = e * b + c * a := by grind
theorem add_comm' (p q : Pt) : p.add q = q.add p := (add_eq (c1 _ _ _ _ _ _ (sx_mul p q)) (c2 _ _ _ _ _ _ (sy_mul p q))).symm

theorem c3 (d a b : Fq) : a * (1 + d * (a * 0 * (b * 1))) = a * 1 + b * 0 := by grind
theorem c4 (d a b : Fq) : b * (1 - d * (a * 0 * (b * 1))) = b * 1 + a * 0 := by grind
theorem add_zero' (p : Pt) : p.add zeroP = p := add_eq (c3 _ _ _) (c4 _ _ _)
theorem c5 (d a b : Fq) : 0 * (1 + d * (a * -a * (b * b))) = a * b + b * -a := by grind
theorem c6 {d a b : Fq} (h : b * b - a * a = 1 + d * (a * a * (b * b))) : 1 * (1 - d * (a * -a * (b * b))) = b * b + a * -a := by grind
theorem add_neg' (p : Pt) : p.add p.neg = zeroP := add_eq (c5 _ _ _) (c6 p.on)

theorem as_x {d x1 y1 x2 y2 x3 y3 : Fq} (e1 : y1 * y1 - x1 * x1 = 1 + d * (x1 * x1 * (y1 * y1))) (e2 : y2 * y2 - x2 * x2 = 1 + d * (x2 * x2 * (y2 * y2))) (e3 : y3 * y3 - x3 * x3 = 1 + d * (x3 * x3 * (y3 * y3))) :
    ((x1 * y2 + y1 * x2) * (1 - d * (x1 * x2 * (y1 * y2))) * y3 + (y1 * y2 + x1 * x2) * (1 + d * (x1 * x2 * (y1 * y2))) * x3) * ((1 + d * (x2 * x3 * (y2 * y3))) * (1 - d * (x2 * x3 * (y2 * y3))) + d * ((x2 * y3 + y2 * x3) * (y2 * y3 + x2 * x3) * (x1 * y1)))
    = ((x2 * y3 + y2 * x3) * (1 - d * (x2 * x3 * (y2 * y3))) * y1 + (y2 * y3 + x2 * x3) * (1 + d * (x2 * x3 * (y2 * y3))) * x1) * ((1 + d * (x1 * x2 * (y1 * y2))) * (1 - d * (x1 * x2 * (y1 * y2))) + d * ((x1 * y2 + y1 * x2) * (y1 * y2 + x1 * x2) * (x3 * y3))) := by
  grind
theorem as_y {d x1 y1 x2 y2 x3 y3 : Fq} (e1 : y1 * y1 - x1 * x1 = 1 + d * (x1 * x1 * (y1 * y1))) (e2 : y2 * y2 - x2 * x2 = 1 + d * (x2 * x2 * (y2 * y2))) (e3 : y3 * y3 - x3 * x3 = 1 + d * (x3 * x3 * (y3 * y3))) :
    ((y1 * y2 + x1 * x2) * (1 + d * (x1 * x2 * (y1 * y2))) * y3 + (x1 * y2 + y1 * x2) * (1 - d * (x1 * x2 * (y1 * y2))) * x3) * ((1 + d * (x2 * x3 * (y2 * y3))) * (1 - d * (x2 * x3 * (y2 * y3))) - d * ((x2 * y3 + y2 * x3) * (y2 * y3 + x2 * x3) * (x1 * y1)))
    = ((y2 * y3 + x2 * x3) * (1 + d * (x2 * x3 * (y2 * y3))) * y1 + (x2 * y3 + y2 * x3) * (1 - d * (x2 * x3 * (y2 * y3))) * x1) * ((1 + d * (x1 * x2 * (y1 * y2))) * (1 - d * (x1 * x2 * (y1 * y2))) - d * ((x1 * y2 + y1 * x2) * (y1 * y2 + x1 * x2) * (x3 * y3))) := by
  grind

/-- What the sum of a sum and a point is, without its parts' denominators. -/
theorem up_x {d A B u v X Y L x3 y3 : Fq} (hX : X * u = A) (hY : Y * v = B) (hL : L * (1 + d * (X * x3 * (Y * y3))) = X * y3 + Y * x3) : L * (u * v + d * (A * B * (x3 * y3))) = A * v * y3 + B * u * x3 := by
  subst hX
  subst hY
  grind
theorem up_y {d A B u v X Y L x3 y3 : Fq} (hX : X * u = A) (hY : Y * v = B) (hL : L * (1 - d * (X * x3 * (Y * y3))) = Y * y3 + X * x3) : L * (u * v - d * (A * B * (x3 * y3))) = B * u * y3 + A * v * x3 := by
  subst hX
  subst hY
  grind
theorem up_d {d A B u v X Y x3 y3 : Fq} (hX : X * u = A) (hY : Y * v = B) : (1 + d * (X * x3 * (Y * y3))) * (u * v) = u * v + d * (A * B * (x3 * y3)) := by
  subst hX
  subst hY
  grind
theorem up_e {d A B u v X Y x3 y3 : Fq} (hX : X * u = A) (hY : Y * v = B) : (1 - d * (X * x3 * (Y * y3))) * (u * v) = u * v - d * (A * B * (x3 * y3)) := by
  subst hX
  subst hY
  grind
theorem cross {L M N K D E : Fq} (h1 : L * D = N) (h2 : M * E = K) (h3 : N * E = K * D) (hD : D ≠ 0) (hE : E ≠ 0) : L = M := by
  refine fq_cancel (fq_ne hD hE) ?_
  subst h1
  subst h2
  clear hD hE
  grind

theorem add_assoc' (p q r : Pt) : (p.add q).add r = p.add (q.add r) := by
  have a1 := sx_mul p q
  have a2 := sy_mul p q
  have b1 := sx_mul q r
  have b2 := sy_mul q r
  have d1 := fq_ne (den_plus (p.add q).on r.on) (fq_ne (den_plus p.on q.on) (den_minus p.on q.on))
  have d2 := fq_ne (den_plus (q.add r).on p.on) (fq_ne (den_plus q.on r.on) (den_minus q.on r.on))
  have f1 := fq_ne (den_minus (p.add q).on r.on) (fq_ne (den_plus p.on q.on) (den_minus p.on q.on))
  have f2 := fq_ne (den_minus (q.add r).on p.on) (fq_ne (den_plus q.on r.on) (den_minus q.on r.on))
  rw [show (p.add q).x = sx p q from rfl, show (p.add q).y = sy p q from rfl, up_d a1 a2] at d1
  rw [show (q.add r).x = sx q r from rfl, show (q.add r).y = sy q r from rfl, up_d b1 b2] at d2
  rw [show (p.add q).x = sx p q from rfl, show (p.add q).y = sy p q from rfl, up_e a1 a2] at f1
  rw [show (q.add r).x = sx q r from rfl, show (q.add r).y = sy q r from rfl, up_e b1 b2] at f2
  rw [add_comm' p (q.add r)]
  refine Pt.ext ?_ ?_
  · exact cross (up_x a1 a2 (sx_mul (p.add q) r)) (up_x b1 b2 (sx_mul (q.add r) p)) (as_x p.on q.on r.on) d1 d2
  · exact cross (up_y a1 a2 (sy_mul (p.add q) r)) (up_y b1 b2 (sy_mul (q.add r) p)) (as_y p.on q.on r.on) f1 f2

/-- A point n times. -/
def Pt.mul (p : Pt) : Nat → Pt
  | 0 => zeroP
  | n + 1 => (p.mul n).add p
theorem mul_add' (p : Pt) (m : Nat) : ∀ n, p.mul (m + n) = (p.mul m).add (p.mul n)
  | 0 => (add_zero' _).symm
  | n + 1 => by
    show (p.mul (m + n)).add p = (p.mul m).add ((p.mul n).add p)
    rw [mul_add' p m n, add_assoc']
theorem mul_mul' (p : Pt) (m : Nat) : ∀ n, p.mul (m * n) = (p.mul m).mul n
  | 0 => rfl
  | n + 1 => by
    show p.mul (m * n + m) = ((p.mul m).mul n).add (p.mul m)
    rw [mul_add', mul_mul' p m n]
end Go.Proofs.YtkeocdebfgcnnaaGreat

/- Numbers modulo the prime; when four numbers tell a point; the sums of the program and of the document. -/
namespace Go.Proofs.YtkeocdebfgcnnaaGreat
open Go.RowKit

theorem pmod (M : Int) : 0 ≤ M % Pm ∧ M % Pm < Pm := em M
def toF (a : Int) : Fq := ⟨(a % Pm).toNat, by have := pmod a; have := pN_P; omega⟩
theorem toF_val (a : Int) : (((toF a).val : Nat) : Int) = a % Pm := by
  show (((a % Pm).toNat : Nat) : Int) = a % Pm
  have := pmod a
  omega
theorem fq_int {a b : Fq} (h : ((a.val : Nat) : Int) = ((b.val : Nat) : Int)) : a = b := Fin.ext (by omega)
theorem toF_mod (a : Int) : toF (a % Pm) = toF a := by
  refine fq_int ?_
  rw [toF_val, toF_val, Int.emod_emod_of_dvd _ (Int.dvd_refl _)]
theorem toF_add (a b : Int) : toF (a + b) = toF a + toF b := by
  refine fq_int ?_
  rw [toF_val, Fin.val_add, Int.natCast_emod, Int.natCast_add, toF_val, toF_val, pN_P, ← Int.add_emod]
theorem toF_mul (a b : Int) : toF (a * b) = toF a * toF b := by
  refine fq_int ?_
  rw [toF_val, Fin.val_mul, Int.natCast_emod, Int.natCast_mul, toF_val, toF_val, pN_P, ← Int.mul_emod]
theorem toF_sub (a b : Int) : toF (a - b) = toF a - toF b := by
  have h := toF_add (a - b) b
  rw [show a - b + b = a by omega] at h
  rw [h]
  generalize toF (a - b) = u
  generalize toF b = v
  grind
theorem toF_zero : toF 0 = 0 := by decide +kernel
theorem toF_one : toF 1 = 1 := by decide +kernel
theorem toF_cg {a b : Int} (h : Cg a b) : toF a = toF b := by
  rw [← toF_mod a, ← toF_mod b, h.emod]
theorem toF_neg (a : Int) : toF (-a) = - toF a := by
  have h := toF_sub 0 a
  rw [toF_zero, Int.zero_sub] at h
  rw [h]
  generalize toF a = u
  grind
theorem toF_nz {a : Int} : toF a = 0 ↔ a % Pm = 0 := by
  constructor
  · intro h
    have h2 := congrArg (fun x : Fq => ((x.val : Nat) : Int)) h
    simp only [toF_val] at h2
    exact h2
  · intro h
    rw [← toF_mod, h, toF_zero]
theorem toF_eq {a b : Int} : toF a = toF b ↔ a % Pm = b % Pm := by
  constructor
  · intro h
    have h2 := congrArg (fun x : Fq => ((x.val : Nat) : Int)) h
    simpa only [toF_val] using h2
  · intro h
    rw [← toF_mod, h, toF_mod]
theorem tm (x y : E5) : toF (mulF x y).n = toF x.n * toF y.n := by rw [toF_cg (mulF_n x y), toF_mul]
theorem ta (x y : E5) : toF (addF x y).n = toF x.n + toF y.n := by rw [toF_cg (addF_n x y), toF_add]
theorem ts (x y : E5) : toF (subF x y).n = toF x.n - toF y.n := by rw [toF_cg (subF_n x y), toF_sub]
theorem tn (x : E5) : toF (negF x).n = - toF x.n := by
  unfold negF
  rw [ts, zeroE_n, toF_zero]
  generalize toF x.n = u
  grind
theorem t1 : toF (smallF 1).n = 1 := by rw [toF_cg (smallF_n 1), toF_one]
theorem pow_up (z : Int) (n m : Nat) (h : m = n + 1) : toF z * toF (z ^ n) = toF (z ^ m) := by
  subst h
  rw [← toF_mul, Int.pow_succ, Int.mul_comm]
theorem inv_pow {z : Int} (h : toF z ≠ 0) : toF z * toF (z ^ (2 ^ 255 - 21)) = 1 := by
  have hv : 0 < (toF z).val := Nat.pos_of_ne_zero fun e => h (Fin.ext (by rw [e]; rfl))
  have hf := fermatN hv (toF z).isLt
  have e1 : toF z * toF (z ^ (2 ^ 255 - 21)) = toF (z ^ (2 ^ 255 - 20)) := pow_up z (2 ^ 255 - 21) (2 ^ 255 - 20) (by decide)
  rw [e1]
  refine fq_int ?_
  rw [toF_val]
  have hz : Cg z (((toF z).val : Nat) : Int) := by
    rw [toF_val]
    exact (cg_emod z).symm
  rw [(hz.pow _).emod, ← Int.natCast_pow, ← pN_P, ← Int.natCast_emod, show (2 ^ 255 - 20 : Nat) = pN - 1 by decide, hf]
  rfl
theorem ti {x : E5} (h : toF x.n ≠ 0) : toF x.n * toF (invF x).n = 1 := by
  rw [toF_cg (invF_pow x)]
  exact inv_pow h
theorem tp {z : Int} (h : toF z ≠ 0) : toF z * toF (pwm z (xbit 255 21) 255) = 1 := by
  rw [toF_cg (pwm_pow z (xbit 255 21) 255), ex255]
  exact inv_pow h

/-- Four numbers tell a point. -/
structure RepF (X Y Z T : Fq) (P : Pt) : Prop where
  z : Z ≠ 0
  x : X = P.x * Z
  y : Y = P.y * Z
  t : T = P.x * P.y * Z

theorem al1 {D sx Z1 Z2 x1 y1 x2 y2 : Fq} (h : sx * (1 + D) = x1 * y2 + y1 * x2) : (y1 * Z1 + x1 * Z1) * (y2 * Z2 + x2 * Z2) - (y1 * Z1 - x1 * Z1) * (y2 * Z2 - x2 * Z2) = sx * (Z1 * (Z2 + Z2) + D * (Z1 * (Z2 + Z2))) := by
  grind
theorem al2 {D sy Z1 Z2 x1 y1 x2 y2 : Fq} (h : sy * (1 - D) = y1 * y2 + x1 * x2) : (y1 * Z1 + x1 * Z1) * (y2 * Z2 + x2 * Z2) + (y1 * Z1 - x1 * Z1) * (y2 * Z2 - x2 * Z2) = sy * (Z1 * (Z2 + Z2) - D * (Z1 * (Z2 + Z2))) := by
  grind
theorem al3 (d Z1 Z2 x1 y1 x2 y2 : Fq) : d * (x1 * y1 * Z1) * (x2 * y2 * Z2 + x2 * y2 * Z2) = d * (x1 * x2 * (y1 * y2)) * (Z1 * (Z2 + Z2)) := by
  grind
theorem al4 (D c : Fq) : c - D * c = (1 - D) * c := by grind
theorem al5 (D c : Fq) : c + D * c = (1 + D) * c := by grind
theorem al6 {e f g h sx sy : Fq} (he : e = sx * g) (hh : h = sy * f) : e * f = sx * (f * g) ∧ g * h = sy * (f * g) ∧ e * h = sx * sy * (f * g) := by
  subst he
  subst hh
  refine ⟨?_, ?_, ?_⟩ <;> grind
theorem dbl_ne {Z1 Z2 : Fq} (h1 : Z1 ≠ 0) (h2 : Z2 ≠ 0) : Z1 * (Z2 + Z2) ≠ 0 := by
  have e : Z2 + Z2 = 2 * Z2 := by clear h1 h2; grind
  rw [e]
  exact fq_ne h1 (fq_ne two_ne h2)
/-- The program's sum. -/
theorem RepF.plus {X1 Y1 Z1 T1 X2 Y2 Z2 T2 : Fq} {P Q : Pt} (p : RepF X1 Y1 Z1 T1 P) (q : RepF X2 Y2 Z2 T2 Q) :
    RepF (((Y1 + X1) * (Y2 + X2) - (Y1 - X1) * (Y2 - X2)) * (Z1 * (Z2 + Z2) - dE * T1 * (T2 + T2))) ((Z1 * (Z2 + Z2) + dE * T1 * (T2 + T2)) * ((Y1 + X1) * (Y2 + X2) + (Y1 - X1) * (Y2 - X2)))
      ((Z1 * (Z2 + Z2) - dE * T1 * (T2 + T2)) * (Z1 * (Z2 + Z2) + dE * T1 * (T2 + T2))) (((Y1 + X1) * (Y2 + X2) - (Y1 - X1) * (Y2 - X2)) * ((Y1 + X1) * (Y2 + X2) + (Y1 - X1) * (Y2 - X2))) (P.add Q) := by
  obtain ⟨pz, rfl, rfl, rfl⟩ := p
  obtain ⟨qz, rfl, rfl, rfl⟩ := q
  rw [al3 dE Z1 Z2 P.x P.y Q.x Q.y]
  have he := al1 (Z1 := Z1) (Z2 := Z2) (sx_mul P Q)
  have hh := al2 (Z1 := Z1) (Z2 := Z2) (sy_mul P Q)
  have hf := fq_ne (den_minus P.on Q.on) (dbl_ne pz qz)
  have hg := fq_ne (den_plus P.on Q.on) (dbl_ne pz qz)
  rw [← al4] at hf
  rw [← al5] at hg
  obtain ⟨e1, e2, e3⟩ := al6 he hh
  exact ⟨fq_ne hf hg, e1, e2, e3⟩
theorem bl1 {d x y Z : Fq} (h : y * y - x * x = 1 + d * (x * x * (y * y))) : x * Z * (x * Z) - y * Z * (y * Z) = -((1 + d * (x * x * (y * y))) * (Z * Z)) := by grind
theorem bl2 {d x y Z : Fq} (h : y * y - x * x = 1 + d * (x * x * (y * y))) : Z * (Z + Z) + (x * Z * (x * Z) - y * Z * (y * Z)) = (1 - d * (x * x * (y * y))) * (Z * Z) := by grind
theorem bl3 (x y Z : Fq) : x * Z * (x * Z) + y * Z * (y * Z) - (x * Z + y * Z) * (x * Z + y * Z) = -((x * y + y * x) * (Z * Z)) := by grind
theorem bl4 (x y Z : Fq) : x * Z * (x * Z) + y * Z * (y * Z) = (y * y + x * x) * (Z * Z) := by grind
theorem neg_ne {a : Fq} (h : a ≠ 0) : -a ≠ 0 := fun e => h (by clear h; grind)
theorem bl6 (s u c : Fq) : -(s * u * c) = s * -(u * c) := by grind
theorem bl7 (s u c : Fq) : s * u * c = s * (u * c) := by grind
theorem RepF.dbl {X Y Z T : Fq} {P : Pt} (p : RepF X Y Z T P) :
    RepF ((X * X + Y * Y - (X + Y) * (X + Y)) * (Z * (Z + Z) + (X * X - Y * Y))) ((X * X - Y * Y) * (X * X + Y * Y)) ((Z * (Z + Z) + (X * X - Y * Y)) * (X * X - Y * Y)) ((X * X + Y * Y - (X + Y) * (X + Y)) * (X * X + Y * Y)) (P.add P) := by
  obtain ⟨pz, rfl, rfl, rfl⟩ := p
  have hon := P.on
  unfold On at hon
  have hg := bl1 (Z := Z) hon
  have hf := bl2 (Z := Z) hon
  have he : P.x * Z * (P.x * Z) + P.y * Z * (P.y * Z) - (P.x * Z + P.y * Z) * (P.x * Z + P.y * Z) = sx P P * (P.x * Z * (P.x * Z) - P.y * Z * (P.y * Z)) := by
    rw [bl3, hg, ← sx_mul P P, bl6]
  have hh : P.x * Z * (P.x * Z) + P.y * Z * (P.y * Z) = sy P P * (Z * (Z + Z) + (P.x * Z * (P.x * Z) - P.y * Z * (P.y * Z))) := by
    rw [bl4, hf, ← sy_mul P P, bl7]
  obtain ⟨e1, e2, e3⟩ := al6 he hh
  have zz := fq_ne pz pz
  have nf := fq_ne (den_minus P.on P.on) zz
  have ng := neg_ne (fq_ne (den_plus P.on P.on) zz)
  rw [← hf] at nf
  rw [← hg] at ng
  exact ⟨fq_ne nf ng, e1, e2, e3⟩
theorem cl1 {D sx Z1 Z2 x1 y1 x2 y2 : Fq} (h : sx * (1 + D) = x1 * y2 + y1 * x2) : x1 * Z1 * (y2 * Z2) + y1 * Z1 * (x2 * Z2) = sx * (Z1 * Z2 + D * (Z1 * Z2)) := by grind
theorem cl2 {D sy Z1 Z2 x1 y1 x2 y2 : Fq} (h : sy * (1 - D) = y1 * y2 + x1 * x2) : y1 * Z1 * (y2 * Z2) + x1 * Z1 * (x2 * Z2) = sy * (Z1 * Z2 - D * (Z1 * Z2)) := by grind
theorem cl3 (d Z1 Z2 x1 y1 x2 y2 : Fq) : d * (x1 * y1 * Z1) * (x2 * y2 * Z2) = d * (x1 * x2 * (y1 * y2)) * (Z1 * Z2) := by grind
/-- The document's sum. -/
theorem RepF.rplus {X1 Y1 Z1 T1 X2 Y2 Z2 T2 : Fq} {P Q : Pt} (p : RepF X1 Y1 Z1 T1 P) (q : RepF X2 Y2 Z2 T2 Q) :
    RepF ((X1 * Y2 + Y1 * X2) * (Z1 * Z2 - dE * T1 * T2)) ((Z1 * Z2 + dE * T1 * T2) * (Y1 * Y2 + X1 * X2)) ((Z1 * Z2 - dE * T1 * T2) * (Z1 * Z2 + dE * T1 * T2)) ((X1 * Y2 + Y1 * X2) * (Y1 * Y2 + X1 * X2)) (P.add Q) := by
  obtain ⟨pz, rfl, rfl, rfl⟩ := p
  obtain ⟨qz, rfl, rfl, rfl⟩ := q
  rw [cl3 dE Z1 Z2 P.x P.y Q.x Q.y]
  have he := cl1 (Z1 := Z1) (Z2 := Z2) (sx_mul P Q)
  have hh := cl2 (Z1 := Z1) (Z2 := Z2) (sy_mul P Q)
  have hf := fq_ne (den_minus P.on Q.on) (fq_ne pz qz)
  have hg := fq_ne (den_plus P.on Q.on) (fq_ne pz qz)
  rw [← al4] at hf
  rw [← al5] at hg
  obtain ⟨e1, e2, e3⟩ := al6 he hh
  exact ⟨fq_ne hf hg, e1, e2, e3⟩
theorem dl1 (x y Z : Fq) : -(x * Z) = -x * Z ∧ -(x * y * Z) = -x * y * Z := by constructor <;> grind
theorem RepF.neg {X Y Z T : Fq} {P : Pt} (p : RepF X Y Z T P) : RepF (-X) Y Z (-T) P.neg := by
  obtain ⟨pz, rfl, rfl, rfl⟩ := p
  exact ⟨pz, (dl1 P.x P.y Z).1, rfl, (dl1 P.x P.y Z).2⟩
theorem el1 {x u Z1 Z2 : Fq} (h : x * Z1 * Z2 = u * Z2 * Z1) : x * (Z1 * Z2) = u * (Z1 * Z2) := by grind
theorem RepF.eq {X1 Y1 Z1 T1 X2 Y2 Z2 T2 : Fq} {P Q : Pt} (p : RepF X1 Y1 Z1 T1 P) (q : RepF X2 Y2 Z2 T2 Q) : (X1 * Z2 = X2 * Z1 ↔ P.x = Q.x) ∧ (Y1 * Z2 = Y2 * Z1 ↔ P.y = Q.y) := by
  obtain ⟨pz, rfl, rfl, rfl⟩ := p
  obtain ⟨qz, rfl, rfl, rfl⟩ := q
  have hz := fq_ne pz qz
  refine ⟨⟨fun h => fq_cancel hz (el1 h), fun h => ?_⟩, ⟨fun h => fq_cancel hz (el1 h), fun h => ?_⟩⟩
  · rw [h]
    clear h
    grind
  · rw [h]
    clear h
    grind
theorem fl1 {x Z I : Fq} (h : Z * I = 1) : x * Z * I = x := by grind

end Go.Proofs.YtkeocdebfgcnnaaGreat

/- Which points the program's and the document's numbers tell; that both read bytes alike. -/
namespace Go.Proofs.YtkeocdebfgcnnaaGreat
open Go.RowKit

structure Rep (p : P5) (P : Pt) : Prop where
  ok : p.Ok
  r : RepF (toF p.x.n) (toF p.y.n) (toF p.z.n) (toF p.t.n) P
structure RRep (q : RQ) (P : Pt) : Prop where
  ok : q.Ok
  r : RepF (toF q.x) (toF q.y) (toF q.z) (toF q.t) P

theorem dF_t : toF dF.n = dE := by
  unfold dF
  rw [toF_cg (ofF_n dBy), ← toF_mod, dBy_val]
  decide +kernel
theorem DI_t : toF DI = dE := by decide +kernel
theorem Rep.sum {p q : P5} {P Q : Pt} (hp : Rep p P) (hq : Rep q Q) : Rep (sumF p q) (P.add Q) := by
  refine ⟨sumF_ok hp.ok hq.ok, ?_⟩
  unfold sumF
  simp only [tm, ta, ts, dF_t]
  exact hp.r.plus hq.r
theorem Rep.dbl {p : P5} {P : Pt} (hp : Rep p P) : Rep (dblF p) (P.add P) := by
  refine ⟨dblF_ok hp.ok, ?_⟩
  unfold dblF
  simp only [tm, ta, ts]
  exact hp.r.dbl
theorem Rep.none {p : P5} {P : Pt} (hp : Rep p P) : noneB p = false := by
  unfold noneB
  have := mt toF_nz.2 hp.r.z
  simpa using this
theorem none5_b : noneB none5 = true := by decide
theorem Rep.add {p q : P5} {P Q : Pt} (hp : Rep p P) (hq : Rep q Q) : Rep (addV p q) (P.add Q) := by
  unfold addV
  rw [hp.none, hq.none]
  simp only [Bool.false_eq_true, if_false]
  exact hp.sum hq
theorem Rep.neg {p : P5} {P : Pt} (hp : Rep p P) : Rep (negV p) P.neg := by
  have e : negV p = ⟨negF p.x, p.y, p.z, negF p.t⟩ := by
    unfold negV
    rw [hp.none]
    exact if_neg Bool.false_ne_true
  rw [e]
  refine ⟨⟨negF_ok hp.ok.x, hp.ok.y, hp.ok.z, negF_ok hp.ok.t⟩, ?_⟩
  simp only [tn]
  exact hp.r.neg
theorem eqE_iff (x y : E5) : eqE x y = true ↔ toF x.n = toF y.n := by
  unfold eqE
  rw [beq_iff_eq, toF_eq]
theorem Rep.same {p q : P5} {P Q : Pt} (hp : Rep p P) (hq : Rep q Q) : sameV p q = true ↔ P = Q := by
  unfold sameV
  rw [hp.none, hq.none]
  simp only [Bool.not_false, Bool.true_and, Bool.and_eq_true, eqE_iff, tm]
  rw [(hp.r.eq hq.r).1, (hp.r.eq hq.r).2]
  exact ⟨fun h => Pt.ext h.1 h.2, fun h => by rw [h]; exact ⟨rfl, rfl⟩⟩
theorem zero_t : toF zeroE.n = 0 := by rw [zeroE_n, toF_zero]
theorem zero5_rep : Rep zero5 zeroP := by
  refine ⟨zero5_ok, ?_⟩
  unfold zero5 pointF
  simp only [tm, t1, zero_t]
  refine ⟨one_ne, ?_, ?_, ?_⟩ <;> decide +kernel
theorem Rep.oct {p : P5} {P : Pt} (hp : Rep p P) : Rep (oct p) (((P.add P).add (P.add P)).add ((P.add P).add (P.add P))) := hp.dbl.dbl.dbl
theorem Rep.small {p : P5} {P : Pt} (hp : Rep p P) : smallV p = true ↔ ((P.add P).add (P.add P)).add ((P.add P).add (P.add P)) = zeroP := by
  unfold smallV
  rw [hp.none]
  simp only [Bool.not_false, Bool.true_and]
  exact hp.oct.same zero5_rep

theorem tmI (a b : Int) : toF (mI a b) = toF a * toF b := by unfold mI; rw [toF_mod, toF_mul]
theorem tpI (a b : Int) : toF (pI a b) = toF a + toF b := by unfold pI; rw [toF_mod, toF_add]
theorem tsI (a b : Int) : toF (sI a b) = toF a - toF b := by unfold sI; rw [toF_mod, toF_sub]
theorem tnI (a : Int) : toF (nI a) = - toF a := by unfold nI; rw [toF_mod, toF_neg]
theorem tvI {a : Int} (h : toF a ≠ 0) : toF a * toF (vI a) = 1 := tp h
theorem RRep.add {p q : RQ} {P Q : Pt} (hp : RRep p P) (hq : RRep q Q) : RRep (raddV p q) (P.add Q) := by
  refine ⟨raddV_ok _ _, ?_⟩
  unfold raddV rteesV
  simp only [tmI, tpI, tsI, DI_t]
  exact hp.r.rplus hq.r
theorem RRep.neg {p : RQ} {P : Pt} (hp : RRep p P) : RRep (rnegV p) P.neg := by
  refine ⟨rnegV_ok hp.ok, ?_⟩
  unfold rnegV
  simp only [tnI]
  exact hp.r.neg
theorem mI_eq (a b c d : Int) : (mI a b == mI c d) = true ↔ toF a * toF b = toF c * toF d := by
  rw [beq_iff_eq, ← toF_mul, ← toF_mul, toF_eq]
  exact Iff.rfl
theorem RRep.same {p q : RQ} {P Q : Pt} (hp : RRep p P) (hq : RRep q Q) : rsameV p q = true ↔ P = Q := by
  unfold rsameV
  rw [Bool.and_eq_true, mI_eq, mI_eq, (hp.r.eq hq.r).1, (hp.r.eq hq.r).2]
  exact ⟨fun h => Pt.ext h.1 h.2, fun h => by rw [h]; exact ⟨rfl, rfl⟩⟩
theorem rzero_rep : RRep rzeroV zeroP := by
  refine ⟨rzeroV_ok, ?_⟩
  unfold rzeroV
  simp only [toF_zero, toF_one]
  refine ⟨one_ne, ?_, ?_, ?_⟩ <;> decide +kernel
theorem RRep.small {p : RQ} {P : Pt} (hp : RRep p P) : rsmallV p = true ↔ ((P.add P).add (P.add P)).add ((P.add P).add (P.add P)) = zeroP := by
  unfold rsmallV roct
  exact ((hp.add hp).add (hp.add hp) |>.add ((hp.add hp).add (hp.add hp))).same rzero_rep
/-- The bytes of a point. -/
def ptS (P : Pt) : ByteArray := encS (((P.x.val : Nat) : Int) % 2 == 1) (lebytes ((P.y.val : Nat) : Int))
theorem Rep.bytes {p : P5} {P : Pt} (hp : Rep p P) : bytesV p = ptS P := by
  have hi := ti hp.r.z
  have ex : (mulF p.x (invF p.z)).n % Pm = ((P.x.val : Nat) : Int) := by
    rw [← toF_val, tm, hp.r.x, fl1 hi]
  have ey : (mulF p.y (invF p.z)).n % Pm = ((P.y.val : Nat) : Int) := by
    rw [← toF_val, tm, hp.r.y, fl1 hi]
  unfold bytesV ptS oddE
  rw [hp.none, ex, ey]
  exact if_neg Bool.false_ne_true
theorem RRep.bytes {p : RQ} {P : Pt} (hp : RRep p P) : rbytesV p = ptS P := by
  have hi := tvI hp.r.z
  have ex : mI p.x (vI p.z) = ((P.x.val : Nat) : Int) := by
    rw [← em_self (mI_bd p.x (vI p.z)), ← toF_val, tmI, hp.r.x, fl1 hi]
  have ey : mI p.y (vI p.z) = ((P.y.val : Nat) : Int) := by
    rw [← em_self (mI_bd p.y (vI p.z)), ← toF_val, tmI, hp.r.y, fl1 hi]
  unfold rbytesV ptS
  rw [ex, ey]

/- Decode: both sides agree. -/
theorem besE_cg (s : ByteArray) : Cg (besE (decY s)).n (aI (rY s)) := by
  have hy : Cg (decY s).n (rY s) := by
    unfold decY rY
    exact (ofF_n (cutS s)).trans (cg_emod _).symm
  have m : ∀ {x : Int} {A : Int}, Cg x A → Cg x (A % Pm) := fun h => h.trans (cg_emod _).symm
  have yy := m ((mulF_n (decY s) (decY s)).trans (hy.mul hy))
  have one := smallF_n 1
  have u := m ((subF_n _ _).trans (yy.sub one))
  have d : Cg dF.n DI := by
    unfold dF
    have h := m (ofF_n dBy)
    rwa [dBy_val] at h
  have dy := m ((mulF_n dF _).trans (d.mul yy))
  have v := m ((addF_n _ _).trans (dy.add one))
  exact m ((mulF_n _ _).trans (u.mul (rinv_val v)))
theorem root_rr (s : ByteArray) : (rootF (besE (decY s))).2 = (rr (aI (rY s))).2 ∧ (rootF (besE (decY s))).1.n % Pm = rX s := by
  have h := root_val (aI_bd (rY s)) (besE_cg s)
  unfold rX
  rw [rr_eq]
  exact h
theorem rr_even (A : Int) : (rr A).1 % 2 = 0 := by
  rw [rr_eq]
  have hP : Pm % 2 = 1 := by decide
  have key : ∀ {U : Int}, 0 ≤ U ∧ U < Pm → (if U % 2 = 1 then (- U) % Pm else U) % 2 = 0 := fun {U} hU => by
    split
    · rename_i h
      have e : (-U) % Pm = Pm - U := by
        have := Int.add_emod_right (-U) Pm
        rw [← this, show -U + Pm = Pm - U by omega]
        exact Int.emod_eq_of_lt (by omega) (by omega)
      rw [e]
      omega
    · omega
  unfold rrF
  have h1 := pwm_bd A (xbit 252 2) 252
  have h2 := em (pwm A (xbit 252 2) 252 * rmo.n)
  simp only
  generalize pwm A (xbit 252 2) 252 = U at h1 h2 ⊢
  generalize U * rmo.n % Pm = V at h2 ⊢
  by_cases e : U * U % Pm = A
  · rw [if_pos e]
    exact key h1
  · rw [if_neg e]
    by_cases e2 : V * V % Pm = A
    · rw [if_pos e2]
      exact key h2
    · rw [if_neg e2]
      rfl
theorem rr_sq {A : Int} (h : (rr A).2 = true) : toF (rr A).1 * toF (rr A).1 = toF A := by
  rw [rr_eq] at h ⊢
  have key : ∀ {U : Int}, toF (if U % 2 = 1 then (- U) % Pm else U) * toF (if U % 2 = 1 then (- U) % Pm else U) = toF (U * U % Pm) := fun {U} => by
    rw [toF_mod, toF_mul]
    split
    · rw [toF_mod, toF_neg, nn]
    · rfl
  revert h
  unfold rrF
  simp only
  generalize pwm A (xbit 252 2) 252 = U
  generalize U * rmo.n % Pm = V
  by_cases e : U * U % Pm = A
  · rw [if_pos e]
    intro _
    exact key.trans (by rw [e])
  · rw [if_neg e]
    by_cases e2 : V * V % Pm = A
    · rw [if_pos e2]
      intro _
      exact key.trans (by rw [e2])
    · rw [if_neg e2]
      intro h
      cases h
theorem decX_n (s : ByteArray) : (decX s).n % Pm = rdecX s := by
  have h := (root_rr s).2
  unfold decX rdecX
  cases oddB s
  · simp only [Bool.false_eq_true, if_false]
    exact h
  · simp only [if_true]
    unfold nI
    rw [(negF_n _).emod, ← h]
    exact (Cg.neg (cg_emod _)).symm.emod
theorem dec_eq (s : ByteArray) : decB s = rdecB s := by
  unfold decB rdecB oddE
  rw [decX_n, (root_rr s).1]
  have hX := rX_bd s
  have he : rX s % 2 = 0 := rr_even _
  have hP : Pm % 2 = 1 := by decide
  have hq : ((rdecX s % 2 == 1) == oddB s) = !((rX s == 0) && oddB s) := by
    unfold rdecX
    cases oddB s
    · simp [he]
    · simp only [if_true, Bool.and_true]
      unfold nI
      by_cases h0 : rX s = 0
      · rw [h0]
        decide
      · have e : (-rX s) % Pm = Pm - rX s := by
          have := Int.add_emod_right (-rX s) Pm
          rw [← this, show -rX s + Pm = Pm - rX s by omega]
          exact Int.emod_eq_of_lt (by omega) (by omega)
        rw [e]
        have h1 : (Pm - rX s) % 2 = 1 := by omega
        simp [h1, h0]
  rw [hq]
theorem on_ex {d x y v : Fq} (hv : (d * (y * y) + 1) * v = 1) (hx : x * x = (y * y - 1) * v) : y * y - x * x = 1 + d * (x * x * (y * y)) := by grind
theorem den0 (y : Fq) : dE * (y * y) + 1 ≠ 0 := fun h => by
  have h1 : iE * iE = dE * (y * y) := by
    rw [iE_sq]
    generalize dE = d at *
    grind
  have h2 := no_root h1
  rw [h2] at h
  revert h
  decide +kernel
theorem dec_on (s : ByteArray) (h : rdecB s = true) : On (toF (rdecX s)) (toF (rY s)) := by
  unfold rdecB at h
  simp only [Bool.and_eq_true] at h
  have hq := rr_sq h.2.1
  have hx : toF (rdecX s) * toF (rdecX s) = toF (aI (rY s)) := by
    rw [← hq]
    unfold rdecX rX
    split
    · rw [tnI, nn]
    · rfl
  have ea : toF (aI (rY s)) = (toF (rY s) * toF (rY s) - 1) * toF (vI (pI (mI DI (mI (rY s) (rY s))) 1)) := by
    unfold aI
    rw [tmI, tsI, tmI, toF_one]
  rw [ea] at hx
  have eb : toF (pI (mI DI (mI (rY s) (rY s))) 1) = dE * (toF (rY s) * toF (rY s)) + 1 := by
    rw [tpI, tmI, tmI, DI_t, toF_one]
  have hv := tvI (a := pI (mI DI (mI (rY s) (rY s))) 1) (by rw [eb]; exact den0 _)
  rw [eb] at hv
  unfold On
  exact on_ex hv hx
/-- The point that bytes are. -/
def decPt (s : ByteArray) (h : rdecB s = true) : Pt := ⟨toF (rdecX s), toF (rY s), dec_on s h⟩
theorem mul_one' (a : Fq) : a = a * 1 := by grind
theorem dec_rep {s : ByteArray} (hs : s.size = 32) (h : rdecB s = true) : Rep (decP s) (decPt s h) := by
  have e : decP s = pointF (decX s) (decY s) := by
    unfold decP
    rw [if_pos hs, dec_eq, h]
    exact if_pos rfl
  rw [e]
  have ex : toF (decX s).n = toF (rdecX s) := by rw [← toF_mod, decX_n]
  have ey : toF (decY s).n = toF (rY s) := by
    unfold decY rY
    rw [toF_cg (ofF_n (cutS s)), toF_mod]
  refine ⟨pointF_ok (decX_ok s) (decY_ok s), ?_⟩
  unfold pointF
  simp only [tm, t1, ex, ey]
  exact ⟨one_ne, mul_one' _, mul_one' _, mul_one' _⟩
theorem rdec_rep {s : ByteArray} (hs : s.size = 32) (h : rdecB s = true) : RRep (rdecP s) (decPt s h) := by
  have e : rdecP s = rofV (rdecX s) (rY s) := by
    unfold rdecP
    rw [if_pos hs, h]
    exact if_pos rfl
  rw [e]
  refine ⟨rofV_ok (rdecX_bd s) (rY_bd s), ?_⟩
  unfold rofV
  simp only [tmI, toF_one]
  exact ⟨one_ne, mul_one' _, mul_one' _, mul_one' _⟩
theorem code_eq (s : ByteArray) : decC s = rdecC s := by
  unfold decC rdecC
  rw [dec_eq]

end Go.Proofs.YtkeocdebfgcnnaaGreat

/- The walks of the statements, told by what their callees hand back. -/
namespace Go.Proofs.YtkeocdebfgcnnaaGreat
open Go.RowKit

def shS : ByteArray := ⟨#[115, 104, 111, 114, 116]⟩
def zS : ByteArray := ⟨#[1, 0, 0, 0, 0, 0, 0, 0, 0, 0, 0, 0, 0, 0, 0, 0, 0, 0, 0, 0, 0, 0, 0, 0, 0, 0, 0, 0, 0, 0, 0, 0]⟩

structure aliveF (bb zz nb sb rb : Nat → Int) : Prop where
  h1 : ∀ w, Calls Tryz.prog 20 #[] w fun r w' => r = .returned (.agg (arr 20 bb)) ∧ Below w.heap.size w w'
  h2 : ∀ w, Calls Tryz.prog 33 #[.agg (arr 20 bb)] w fun r w' => r = .returned (.string baseS) ∧ Below w.heap.size w w'
  h3 : ∀ w, Calls Tryz.prog 5 #[.string baseS] w fun r w' => r = .returned (.tuple #[.agg (arr 20 bb), .int .i64 0]) ∧ Below w.heap.size w w'
  h4 : ∀ w, Calls Tryz.prog 5 #[.string shS] w fun r w' => r = .returned (.tuple #[.agg (arr 20 (fun _ => 0)), .int .i64 2]) ∧ Below w.heap.size w w'
  h5 : ∀ w, Calls Tryz.prog 19 #[] w fun r w' => r = .returned (.agg (arr 20 zz)) ∧ Below w.heap.size w w'
  h6 : ∀ w, Calls Tryz.prog 33 #[.agg (arr 20 zz)] w fun r w' => r = .returned (.string zS) ∧ Below w.heap.size w w'
  h7 : ∀ w, Calls Tryz.prog 17 #[.agg (arr 20 bb), .agg (arr 20 bb)] w fun r w' => r = .returned (.bool true) ∧ Below w.heap.size w w'
  h8 : ∀ w, Calls Tryz.prog 13 #[.agg (arr 20 bb)] w fun r w' => r = .returned (.agg (arr 20 nb)) ∧ Below w.heap.size w w'
  h9 : ∀ w, Calls Tryz.prog 11 #[.agg (arr 20 bb), .agg (arr 20 nb)] w fun r w' => r = .returned (.agg (arr 20 sb)) ∧ Below w.heap.size w w'
  h10 : ∀ w, Calls Tryz.prog 17 #[.agg (arr 20 sb), .agg (arr 20 zz)] w fun r w' => r = .returned (.bool true) ∧ Below w.heap.size w w'
  h11 : ∀ w, Calls Tryz.prog 34 #[.agg (arr 20 bb)] w fun r w' => r = .returned (.bool false) ∧ Below w.heap.size w w'
  h12 : ∀ w, Calls Tryz.prog 34 #[.agg (arr 20 zz)] w fun r w' => r = .returned (.bool true) ∧ Below w.heap.size w w'
  h13 : ∀ w, Calls Tryz.prog 34 #[.agg (arr 20 (fun _ => 0))] w fun r w' => r = .returned (.bool false) ∧ Below w.heap.size w w'
  h14 : ∀ w, Calls Tryz.prog 33 #[.agg (arr 20 (fun _ => 0))] w fun r w' => r = .returned (.string ⟨#[]⟩) ∧ Below w.heap.size w w'
  h15 : ∀ w, Calls Tryz.prog 35 #[] w fun r w' => r = .returned (.agg (arr 64 rb)) ∧ Below w.heap.size w w'
  h16 : ∀ w, Calls Tryz.prog 36 #[.agg (arr 64 rb)] w fun r w' => r = .returned (.string baseS) ∧ Below w.heap.size w w'

set_option maxRecDepth 100000 in
set_option maxHeartbeats 4000000 in
theorem alive_gen (bb zz nb sb rb : Nat → Int) (w : World) (F : aliveF bb zz nb sb rb)  :
    Calls Tryz.prog 7 #[] w fun r w' => r = .returned (.bool true) ∧ Below w.heap.size w w' := by
  go_enter Tryz.func7, Tryz.ntmps7
  have M := Mem.start w
  refine sr ?_
  refine pv 0 (.bool false) ?_
  refine nt ?_
  refine sr ?_
  refine pl_call M (want_no rfl) (some 7) rfl 20 #[] (.agg (arr 20 bb)) (fun _ => by kernel_rfl) F.h1 ?_
  intro w1 M
  refine pl_new M (want_no rfl) (some 1) rfl (.cells (arr 20 (fun _ => 0)) 27) (fun _ => by kernel_rfl) ?_
  intro g1 w2 M
  replace M : Mem w [⟨g1, .cells (arr 20 (fun _ => 0)) 27⟩] w2 := M
  refine pl_put M (want_no rfl) rfl 27 _ _ rfl 0 g1 (by kernel_rfl) 20 27 (fun _ => 0) bb rfl (by kernel_rfl) inz27 ?_
  intro w3 M
  replace M : Mem w [⟨g1, .cells (arr 20 bb) 27⟩] w3 := M
  refine nt ?_
  refine sr ?_
  refine pl_load M (want_no rfl) (some 9) rfl 27 _ rfl 0 g1 0 (by kernel_rfl) 20 27 bb rfl 20 bb (Part.all _ _) (by decide) _ Tryz.underlying27 rfl inz27 ?_
  refine pl_call M (want_no rfl) (some 10) rfl 33 #[.agg (arr 20 bb)] (.string baseS) (fun _ => by kernel_rfl) F.h2 ?_
  intro w4 M
  refine pl_call M (want_no rfl) (some 11) rfl 5 #[.string baseS] (.tuple #[.agg (arr 20 bb), .int .i64 0]) (fun _ => by kernel_rfl) F.h3 ?_
  intro w5 M
  refine pv 8 (.tuple #[.agg (arr 20 bb), .int .i64 0]) ?_
  refine pv 12 (.agg (arr 20 bb)) ?_
  refine pv 13 (.int .i64 0) ?_
  refine pl_new M (want_no rfl) (some 2) rfl (.cells (arr 20 (fun _ => 0)) 27) (fun _ => by kernel_rfl) ?_
  intro g2 w6 M
  replace M : Mem w [⟨g1, .cells (arr 20 bb) 27⟩, ⟨g2, .cells (arr 20 (fun _ => 0)) 27⟩] w6 := M
  refine pl_put M (want_no rfl) rfl 27 _ _ rfl 1 g2 (by kernel_rfl) 20 27 (fun _ => 0) bb rfl (by kernel_rfl) inz27 ?_
  intro w7 M
  replace M : Mem w [⟨g1, .cells (arr 20 bb) 27⟩, ⟨g2, .cells (arr 20 bb) 27⟩] w7 := M
  refine pv 3 (.int .i64 0) ?_
  refine nt ?_
  refine sr ?_
  refine pl_call M (want_no rfl) (some 15) rfl 5 #[.string shS] (.tuple #[.agg (arr 20 (fun _ => 0)), .int .i64 2]) (fun _ => by kernel_rfl) F.h4 ?_
  intro w8 M
  refine pv 14 (.tuple #[.agg (arr 20 (fun _ => 0)), .int .i64 2]) ?_
  refine pv 16 (.agg (arr 20 (fun _ => 0))) ?_
  refine pv 17 (.int .i64 2) ?_
  refine pl_new M (want_no rfl) (some 4) rfl (.cells (arr 20 (fun _ => 0)) 27) (fun _ => by kernel_rfl) ?_
  intro g3 w9 M
  replace M : Mem w [⟨g1, .cells (arr 20 bb) 27⟩, ⟨g2, .cells (arr 20 bb) 27⟩, ⟨g3, .cells (arr 20 (fun _ => 0)) 27⟩] w9 := M
  refine pl_put M (want_no rfl) rfl 27 _ _ rfl 2 g3 (by kernel_rfl) 20 27 (fun _ => 0) (fun _ => 0) rfl (by kernel_rfl) inz27 ?_
  intro w10 M
  replace M : Mem w [⟨g1, .cells (arr 20 bb) 27⟩, ⟨g2, .cells (arr 20 bb) 27⟩, ⟨g3, .cells (arr 20 (fun _ => 0)) 27⟩] w10 := M
  refine pv 5 (.int .i64 2) ?_
  refine nt ?_
  refine sr ?_
  refine pl_call M (want_no rfl) (some 18) rfl 19 #[] (.agg (arr 20 zz)) (fun _ => by kernel_rfl) F.h5 ?_
  intro w11 M
  refine pl_call M (want_no rfl) (some 19) rfl 33 #[.agg (arr 20 zz)] (.string zS) (fun _ => by kernel_rfl) F.h6 ?_
  intro w12 M
  refine pv 6 (.string zS) ?_
  refine nt ?_
  refine wp_seq ?_
  refine rg_tail M 55 (by kernel_rfl) (by kernel_rfl) ?_
  simp only [List.take_succ_cons, List.take_zero]
  refine kv 20 (.int .i64 0) ?_
  refine kv 21 (.bool true) ?_
  refine kv 22 (.bool true) ?_
  refine k_load M (want_on 2 true rfl 22 rfl (by kernel_rfl)) (some 23) rfl 27 _ rfl 1 g2 0 (by kernel_rfl) 20 27 bb rfl 20 bb (Part.all _ _) (by decide) _ Tryz.underlying27 rfl inz27 ?_
  refine k_load M (want_on 2 true rfl 22 rfl (by kernel_rfl)) (some 24) rfl 27 _ rfl 0 g1 0 (by kernel_rfl) 20 27 bb rfl 20 bb (Part.all _ _) (by decide) _ Tryz.underlying27 rfl inz27 ?_
  refine k_call (want_on 2 true rfl 22 rfl (by kernel_rfl)) (some 25) rfl 17 #[.agg (arr 20 bb), .agg (arr 20 bb)] (.bool true) (fun _ => by kernel_rfl) F.h7 ?_
  refine kv 26 (.bool true) ?_
  refine kv 27 (.bool true) ?_
  refine k_val (want_on 7 true rfl 27 rfl (by kernel_rfl)) (some 28) rfl (.int .i64 2) (fun _ => by kernel_rfl) ?_
  refine k_val (want_on 7 true rfl 27 rfl (by kernel_rfl)) (some 29) rfl (.bool true) (fun _ => by kernel_rfl) ?_
  refine kv 30 (.bool true) ?_
  refine kv 31 (.bool true) ?_
  refine k_load M (want_on 11 true rfl 31 rfl (by kernel_rfl)) (some 32) rfl 27 _ rfl 0 g1 0 (by kernel_rfl) 20 27 bb rfl 20 bb (Part.all _ _) (by decide) _ Tryz.underlying27 rfl inz27 ?_
  refine k_load M (want_on 11 true rfl 31 rfl (by kernel_rfl)) (some 33) rfl 27 _ rfl 0 g1 0 (by kernel_rfl) 20 27 bb rfl 20 bb (Part.all _ _) (by decide) _ Tryz.underlying27 rfl inz27 ?_
  refine k_call (want_on 11 true rfl 31 rfl (by kernel_rfl)) (some 34) rfl 13 #[.agg (arr 20 bb)] (.agg (arr 20 nb)) (fun _ => by kernel_rfl) F.h8 ?_
  refine k_call (want_on 11 true rfl 31 rfl (by kernel_rfl)) (some 35) rfl 11 #[.agg (arr 20 bb), .agg (arr 20 nb)] (.agg (arr 20 sb)) (fun _ => by kernel_rfl) F.h9 ?_
  refine k_call (want_on 11 true rfl 31 rfl (by kernel_rfl)) (some 36) rfl 19 #[] (.agg (arr 20 zz)) (fun _ => by kernel_rfl) F.h5 ?_
  refine k_call (want_on 11 true rfl 31 rfl (by kernel_rfl)) (some 37) rfl 17 #[.agg (arr 20 sb), .agg (arr 20 zz)] (.bool true) (fun _ => by kernel_rfl) F.h10 ?_
  refine kv 38 (.bool true) ?_
  refine kv 39 (.bool true) ?_
  refine k_val (want_on 19 true rfl 39 rfl (by kernel_rfl)) (some 40) rfl (.string zS) (fun _ => by kernel_rfl) ?_
  refine k_val (want_on 19 true rfl 39 rfl (by kernel_rfl)) (some 41) rfl (.int .i64 32) (fun _ => by kernel_rfl) ?_
  refine k_val (want_on 19 true rfl 39 rfl (by kernel_rfl)) (some 42) rfl (.bool true) (fun _ => by kernel_rfl) ?_
  refine kv 43 (.bool true) ?_
  refine kv 44 (.bool true) ?_
  refine k_val (want_on 24 true rfl 44 rfl (by kernel_rfl)) (some 45) rfl (.string zS) (fun _ => by kernel_rfl) ?_
  refine k_val (want_on 24 true rfl 44 rfl (by kernel_rfl)) (some 46) rfl (.int .u8 1) (fun _ => by kernel_rfl) ?_
  refine k_val (want_on 24 true rfl 44 rfl (by kernel_rfl)) (some 47) rfl (.bool true) (fun _ => by kernel_rfl) ?_
  refine kv 48 (.bool true) ?_
  refine kv 49 (.bool true) ?_
  refine k_load M (want_on 29 true rfl 49 rfl (by kernel_rfl)) (some 50) rfl 27 _ rfl 0 g1 0 (by kernel_rfl) 20 27 bb rfl 20 bb (Part.all _ _) (by decide) _ Tryz.underlying27 rfl inz27 ?_
  refine k_call (want_on 29 true rfl 49 rfl (by kernel_rfl)) (some 51) rfl 34 #[.agg (arr 20 bb)] (.bool false) (fun _ => by kernel_rfl) F.h11 ?_
  refine k_val (want_on 29 true rfl 49 rfl (by kernel_rfl)) (some 52) rfl (.bool true) (fun _ => by kernel_rfl) ?_
  refine kv 53 (.bool true) ?_
  refine kv 54 (.bool true) ?_
  refine k_call (want_on 34 true rfl 54 rfl (by kernel_rfl)) (some 55) rfl 19 #[] (.agg (arr 20 zz)) (fun _ => by kernel_rfl) F.h5 ?_
  refine k_call (want_on 34 true rfl 54 rfl (by kernel_rfl)) (some 56) rfl 34 #[.agg (arr 20 zz)] (.bool true) (fun _ => by kernel_rfl) F.h12 ?_
  refine kv 57 (.bool true) ?_
  refine kv 58 (.bool true) ?_
  refine k_val (want_on 38 true rfl 58 rfl (by kernel_rfl)) (some 59) rfl (.agg (arr 20 (fun _ => 0))) (fun _ => by kernel_rfl) ?_
  refine k_call (want_on 38 true rfl 58 rfl (by kernel_rfl)) (some 60) rfl 34 #[.agg (arr 20 (fun _ => 0))] (.bool false) (fun _ => by kernel_rfl) F.h13 ?_
  refine k_val (want_on 38 true rfl 58 rfl (by kernel_rfl)) (some 61) rfl (.bool true) (fun _ => by kernel_rfl) ?_
  refine kv 62 (.bool true) ?_
  refine kv 63 (.bool true) ?_
  refine k_val (want_on 43 true rfl 63 rfl (by kernel_rfl)) (some 64) rfl (.agg (arr 20 (fun _ => 0))) (fun _ => by kernel_rfl) ?_
  refine k_call (want_on 43 true rfl 63 rfl (by kernel_rfl)) (some 65) rfl 33 #[.agg (arr 20 (fun _ => 0))] (.string ⟨#[]⟩) (fun _ => by kernel_rfl) F.h14 ?_
  refine k_val (want_on 43 true rfl 63 rfl (by kernel_rfl)) (some 66) rfl (.bool true) (fun _ => by kernel_rfl) ?_
  refine kv 67 (.bool true) ?_
  refine kv 68 (.bool true) ?_
  refine k_load M (want_on 48 true rfl 68 rfl (by kernel_rfl)) (some 69) rfl 27 _ rfl 0 g1 0 (by kernel_rfl) 20 27 bb rfl 20 bb (Part.all _ _) (by decide) _ Tryz.underlying27 rfl inz27 ?_
  refine k_call (want_on 48 true rfl 68 rfl (by kernel_rfl)) (some 70) rfl 33 #[.agg (arr 20 bb)] (.string baseS) (fun _ => by kernel_rfl) F.h2 ?_
  refine k_call (want_on 48 true rfl 68 rfl (by kernel_rfl)) (some 71) rfl 35 #[] (.agg (arr 64 rb)) (fun _ => by kernel_rfl) F.h15 ?_
  refine k_call (want_on 48 true rfl 68 rfl (by kernel_rfl)) (some 72) rfl 36 #[.agg (arr 64 rb)] (.string baseS) (fun _ => by kernel_rfl) F.h16 ?_
  refine k_val (want_on 48 true rfl 68 rfl (by kernel_rfl)) (some 73) rfl (.bool true) (fun _ => by kernel_rfl) ?_
  refine kv 74 (.bool true) ?_
  refine kl_nil ?_
  intro w13 M
  replace M : Mem w [⟨g1, .cells (arr 20 bb) 27⟩, ⟨g2, .cells (arr 20 bb) 27⟩, ⟨g3, .cells (arr 20 (fun _ => 0)) 27⟩] w13 := M
  refine pv 0 (.bool true) ?_
  refine nt ?_
  refine wp_ret ?_
  exact bodyPost_ret (v := .bool true) (results_tmp1 Tryz.results7 _ _ _ (by kernel_rfl)) (by kernel_rfl) ⟨rfl, M.old⟩

end Go.Proofs.YtkeocdebfgcnnaaGreat

/- What alive answers; EdwReads. -/
namespace Go.Proofs.YtkeocdebfgcnnaaGreat
open Go.RowKit

theorem bs_bt (s : ByteArray) (hs : s.size = 32) (f : Nat → Int) (hf : ∀ i, i < 32 → f i = bt s i) : bs ((List.range 32).map f) = s := by
  have hm : (List.range 32).map f = (List.range 32).map (bt s) := List.map_congr_left fun i hi => hf i (List.mem_range.1 hi)
  rw [hm]
  have hd : (bs ((List.range 32).map (bt s))).data = s.data := by
    apply Array.ext_getElem?
    intro i
    have hs' : s.data.size = 32 := hs
    by_cases hi : i < 32
    · simp only [bs, List.getElem?_toArray, List.getElem?_map, List.getElem?_range hi, Option.map_some, bt]
      rw [Array.getElem?_eq_getElem (by omega)]
      simp
    · simp only [bs, List.getElem?_toArray]
      rw [List.getElem?_eq_none (by simp; omega), Array.getElem?_eq_none (by omega)]
  cases s
  unfold bs at *
  simp only at hd
  rw [hd]
theorem bt_cut (s : ByteArray) {i : Nat} (hi : i < 32) : bt (cutS s) i = cutF s i := by
  have hb : 0 ≤ cutF s i ∧ cutF s i < 256 := upd_bd (bits_bd (bt_bd s 31).1 (bt_bd s 31).2).1 i
  exact bt_bs _ _ _ (by simp [List.getElem?_map, List.getElem?_range hi]) hb.1 hb.2
theorem enc_cut (s : ByteArray) (hs : s.size = 32) : encS (oddB s) (cutS s) = s := by
  unfold encS
  refine bs_bt s hs _ fun i hi => ?_
  have hb := bits_bd (bt_bd s 31).1 (bt_bd s 31).2
  have hr := bt_bd s 31
  have h31 : bt (cutS s) 31 = bt s 31 % 128 := by
    rw [bt_cut s (by omega)]
    unfold cutF upd
    rw [if_pos rfl]
    exact hb.2.2.2.2.1
  have ho := odd_eq s
  have hi2 : i ≠ 31 → bt (cutS s) i = bt s i := fun h => by
    rw [bt_cut s hi]
    unfold cutF upd
    rw [if_neg h]
  unfold encF
  cases h : oddB s
  · simp only [Bool.false_eq_true, if_false]
    rw [h] at ho
    have h2 : ¬ bt s 31 / 128 = 1 := by simpa using ho
    by_cases e : i = 31
    · rw [e, h31]
      omega
    · exact hi2 e
  · simp only [if_true]
    rw [h] at ho
    have h2 : bt s 31 / 128 = 1 := by simpa using ho
    unfold upd
    by_cases e : i = 31
    · rw [if_pos e, e, h31, (bits_bd (x := bt s 31 % 128) (by omega) (by omega)).2.2.2.2.2.2.2 (by omega)]
      omega
    · rw [if_neg e]
      exact hi2 e
theorem leb_val (s : ByteArray) (hs : s.size = 32) : lebytes (val s) = s := by
  rw [← pt_S, lebytes_S (pt_dig s 32), rb_val s hs]
theorem dec_back {s : ByteArray} (hs : s.size = 32) (h : rdecB s = true) : ptS (decPt s h) = s := by
  have hd := dec_eq s
  rw [h] at hd
  have hc := h
  unfold rdecB at hc
  simp only [Bool.and_eq_true, decide_eq_true_eq] at hc
  unfold decB oddE at hd
  rw [decX_n] at hd
  simp only [Bool.and_eq_true, beq_iff_eq] at hd
  have hv : 0 ≤ val (cutS s) := by rw [← pt_S]; exact (S_bd (pt_dig (cutS s) 32)).1
  have ey : rY s = val (cutS s) := by
    unfold rY
    exact Int.emod_eq_of_lt hv hc.1
  have e1 : (((decPt s h).x.val : Nat) : Int) = rdecX s := by
    show (((toF (rdecX s)).val : Nat) : Int) = rdecX s
    rw [toF_val, em_self (rdecX_bd s)]
  have e2 : (((decPt s h).y.val : Nat) : Int) = val (cutS s) := by
    show (((toF (rY s)).val : Nat) : Int) = val (cutS s)
    rw [toF_val, em_self (rY_bd s), ey]
  unfold ptS
  rw [e1, e2, leb_val _ (cutS_size s), hd.2.2]
  exact enc_cut s hs

/- Some answers. -/
theorem baseS_size : baseS.size = 32 := by decide
theorem base_b : rdecB baseS = true := by
  unfold rdecB rX
  rw [rr_eq]
  decide +kernel
def baseQ : Pt := decPt baseS base_b
theorem base_rep : Rep base5 baseQ := dec_rep baseS_size base_b
theorem rbase_rep : RRep (rdecP baseS) baseQ := rdec_rep baseS_size base_b
theorem base_c : decC baseS = 0 := by
  unfold decC
  rw [if_pos baseS_size, dec_eq, base_b]
  exact if_pos rfl
theorem c_base (w : World) : Calls Tryz.prog 20 #[] w fun r w' => r = .returned (.agg (arr 20 base5.f)) ∧ Below w.heap.size w w' := c_base_of base_c w
theorem c_rbase (w : World) : Calls Tryz.prog 35 #[] w fun r w' => r = .returned (.agg (arr 64 (rdecP baseS).f)) ∧ Below w.heap.size w w' :=
  rbase_gen (rdecP baseS).f w ⟨fun w => by
    have h := c_rdec baseS w
    rw [← code_eq, base_c] at h
    exact h⟩
def BX : Int := 15112221349535400772501151409588531511454012693041857206046113283949847762202
def BY : Int := 46316835694926478169428394003475163141307993866256225615783033603165251855960
theorem base_x : rdecX baseS = BX := by
  unfold rdecX rX
  rw [rr_eq]
  decide +kernel
theorem base_y : rY baseS = BY := by decide +kernel
theorem base_q : rdecP baseS = rofV BX BY := by
  unfold rdecP
  rw [if_pos baseS_size, base_b, base_x, base_y]
  exact if_pos rfl
theorem base_big : rsmallV (rofV BX BY) = false := by decide +kernel
theorem base_nsmall : smallV base5 = false := by
  have h1 := base_rep.small
  have h2 := rbase_rep.small
  rw [base_q, base_big] at h2
  cases h : smallV base5
  · rfl
  · exact absurd (h2.2 (h1.1 h)) Bool.false_ne_true
theorem zero_bytes : bytesV zero5 = zS := by
  rw [zero5_rep.bytes]
  decide +kernel
theorem shS_no : decP shS = none5 ∧ decC shS = 2 := by
  unfold decP decC
  rw [if_neg (by decide), if_neg (by decide)]
  exact ⟨rfl, rfl⟩
theorem same_yes {p q : P5} (hp : p.Ok) (hq : q.Ok) {b : Bool} (h : sameV p q = b) (w : World) : Calls Tryz.prog 17 #[.agg (arr 20 p.f), .agg (arr 20 q.f)] w fun r w' => r = .returned (.bool b) ∧ Below w.heap.size w w' := by
  subst h
  exact c_same p q w hp hq
theorem small_yes {p : P5} (hp : p.Ok) {b : Bool} (h : smallV p = b) (w : World) : Calls Tryz.prog 34 #[.agg (arr 20 p.f)] w fun r w' => r = .returned (.bool b) ∧ Below w.heap.size w w' := by
  subst h
  exact c_small p w hp
theorem bytes_yes {p : P5} (hp : p.Ok) {b : ByteArray} (h : bytesV p = b) (w : World) : Calls Tryz.prog 33 #[.agg (arr 20 p.f)] w fun r w' => r = .returned (.string b) ∧ Below w.heap.size w w' := by
  subst h
  exact c_bytes p w hp
theorem dec_yes {s : ByteArray} {p : P5} {c : Int} (h : decP s = p) (hc : decC s = c) (w : World) : Calls Tryz.prog 5 #[.string s] w fun r w' => r = .returned (.tuple #[.agg (arr 20 p.f), .int .i64 c]) ∧ Below w.heap.size w w' := by
  subst h
  subst hc
  exact c_decode s w
theorem none_bytes : bytesV none5 = ⟨#[]⟩ := by
  unfold bytesV
  rw [none5_b]
  exact if_pos rfl
theorem none_small : smallV none5 = false := by
  unfold smallV
  rw [none5_b]
  rfl
theorem alive_any (w : World) : Calls Tryz.prog 7 #[] w fun r w' => r = .returned (.bool true) ∧ Below w.heap.size w w' :=
  alive_gen base5.f zero5.f (negV base5).f (addV base5 (negV base5)).f (rdecP baseS).f w
    { h1 := c_base
      h2 := bytes_yes base5_ok (base_rep.bytes.trans (dec_back baseS_size base_b))
      h3 := dec_yes rfl base_c
      h4 := dec_yes shS_no.1 shS_no.2
      h5 := c_zero
      h6 := bytes_yes zero5_ok zero_bytes
      h7 := same_yes base5_ok base5_ok ((base_rep.same base_rep).2 rfl)
      h8 := fun w => c_neg base5 w base5_ok
      h9 := fun w => c_add base5 (negV base5) w base5_ok (negV_ok base5_ok)
      h10 := same_yes (addV_ok base5_ok (negV_ok base5_ok)) zero5_ok (((base_rep.add base_rep.neg).same zero5_rep).2 (add_neg' _))
      h11 := small_yes base5_ok base_nsmall
      h12 := small_yes zero5_ok (zero5_rep.small.2 (by rw [add_zero', add_zero', add_zero']))
      h13 := small_yes none5_ok none_small
      h14 := bytes_yes none5_ok none_bytes
      h15 := c_rbase
      h16 := fun w => by
        have h := c_rbytes (rdecP baseS) w rbase_rep.ok
        rwa [rbase_rep.bytes, show ptS baseQ = baseS from dec_back baseS_size base_b] at h }

end Go.Proofs.YtkeocdebfgcnnaaGreat

/- doubled, four times; few: the multiples of a point by half a byte. -/
namespace Go.Proofs.YtkeocdebfgcnnaaGreat
open Go.RowKit

structure dbl4F (p r1 r2 r3 r4 : Nat → Int) : Prop where
  h1 : ∀ w, Calls Tryz.prog 87 #[.agg (arr 20 p)] w fun r w' => r = .returned (.agg (arr 20 r1)) ∧ Below w.heap.size w w'
  h2 : ∀ w, Calls Tryz.prog 87 #[.agg (arr 20 r1)] w fun r w' => r = .returned (.agg (arr 20 r2)) ∧ Below w.heap.size w w'
  h3 : ∀ w, Calls Tryz.prog 87 #[.agg (arr 20 r2)] w fun r w' => r = .returned (.agg (arr 20 r3)) ∧ Below w.heap.size w w'
  h4 : ∀ w, Calls Tryz.prog 87 #[.agg (arr 20 r3)] w fun r w' => r = .returned (.agg (arr 20 r4)) ∧ Below w.heap.size w w'

set_option maxRecDepth 100000 in
set_option maxHeartbeats 4000000 in
theorem dbl4_gen (p r1 r2 r3 r4 : Nat → Int) (w : World) (F : dbl4F p r1 r2 r3 r4)  :
    Calls Tryz.prog 57 #[.agg (arr 20 p), .int .i64 4] w fun r w' => r = .returned (.agg (arr 20 r4)) ∧ Below w.heap.size w w' := by
  go_enter Tryz.func57, Tryz.ntmps57
  have M := Mem.start w
  refine sr ?_
  refine pl_new M (want_no rfl) (some 2) rfl (.cells (arr 20 p) 27) (fun _ => by kernel_rfl) ?_
  intro g1 w1 M
  replace M : Mem w [⟨g1, .cells (arr 20 p) 27⟩] w1 := M
  refine pl_new M (want_no rfl) (some 4) rfl (.cells (arr 20 (fun _ => 0)) 27) (fun _ => by kernel_rfl) ?_
  intro g2 w2 M
  replace M : Mem w [⟨g1, .cells (arr 20 p) 27⟩, ⟨g2, .cells (arr 20 (fun _ => 0)) 27⟩] w2 := M
  refine nt ?_
  refine wp_seq ?_
  refine sr ?_
  refine pv 5 (.int .i64 4) ?_
  refine pv 6 (.int .i64 0) ?_
  refine nt ?_
  refine wp_block ?_
  refine wp_loop_rounds 5 ?_
  refine rounds_go ?_
  refine sr ?_
  refine pv 7 (.bool true) ?_
  refine nt ?_
  refine wp_seq ?_
  refine wp_cond_true (by kernel_rfl) ?_
  refine wp_skip ?_
  refine au_then ?_
  refine wp_seq ?_
  refine wp_block ?_
  refine rg_lit ?_
  refine pl_load M (want_no rfl) (some 8) rfl 27 _ rfl 0 g1 0 (by kernel_rfl) 20 27 p rfl 20 p (Part.all _ _) (by decide) _ Tryz.underlying27 rfl inz27 ?_
  refine pl_call M (want_no rfl) (some 9) rfl 87 #[.agg (arr 20 p)] (.agg (arr 20 r1)) (fun _ => by kernel_rfl) F.h1 ?_
  intro w3 M
  refine pl_put M (want_no rfl) rfl 27 _ _ rfl 0 g1 (by kernel_rfl) 20 27 p r1 rfl (by kernel_rfl) inz27 ?_
  intro w4 M
  replace M : Mem w [⟨g1, .cells (arr 20 r1) 27⟩, ⟨g2, .cells (arr 20 (fun _ => 0)) 27⟩] w4 := M
  refine pl_nil ?_
  refine au_block ?_
  refine au_then ?_
  refine rg_lit ?_
  refine pv 10 (.int .i64 1) ?_
  refine pv 6 (.int .i64 1) ?_
  refine nt ?_
  refine rounds_go ?_
  refine sr ?_
  refine pv 7 (.bool true) ?_
  refine nt ?_
  refine wp_seq ?_
  refine wp_cond_true (by kernel_rfl) ?_
  refine wp_skip ?_
  refine au_then ?_
  refine wp_seq ?_
  refine wp_block ?_
  refine rg_lit ?_
  refine pl_load M (want_no rfl) (some 8) rfl 27 _ rfl 0 g1 0 (by kernel_rfl) 20 27 r1 rfl 20 r1 (Part.all _ _) (by decide) _ Tryz.underlying27 rfl inz27 ?_
  refine pl_call M (want_no rfl) (some 9) rfl 87 #[.agg (arr 20 r1)] (.agg (arr 20 r2)) (fun _ => by kernel_rfl) F.h2 ?_
  intro w5 M
  refine pl_put M (want_no rfl) rfl 27 _ _ rfl 0 g1 (by kernel_rfl) 20 27 r1 r2 rfl (by kernel_rfl) inz27 ?_
  intro w6 M
  replace M : Mem w [⟨g1, .cells (arr 20 r2) 27⟩, ⟨g2, .cells (arr 20 (fun _ => 0)) 27⟩] w6 := M
  refine pl_nil ?_
  refine au_block ?_
  refine au_then ?_
  refine rg_lit ?_
  refine pv 10 (.int .i64 2) ?_
  refine pv 6 (.int .i64 2) ?_
  refine nt ?_
  refine rounds_go ?_
  refine sr ?_
  refine pv 7 (.bool true) ?_
  refine nt ?_
  refine wp_seq ?_
  refine wp_cond_true (by kernel_rfl) ?_
  refine wp_skip ?_
  refine au_then ?_
  refine wp_seq ?_
  refine wp_block ?_
  refine rg_lit ?_
  refine pl_load M (want_no rfl) (some 8) rfl 27 _ rfl 0 g1 0 (by kernel_rfl) 20 27 r2 rfl 20 r2 (Part.all _ _) (by decide) _ Tryz.underlying27 rfl inz27 ?_
  refine pl_call M (want_no rfl) (some 9) rfl 87 #[.agg (arr 20 r2)] (.agg (arr 20 r3)) (fun _ => by kernel_rfl) F.h3 ?_
  intro w7 M
  refine pl_put M (want_no rfl) rfl 27 _ _ rfl 0 g1 (by kernel_rfl) 20 27 r2 r3 rfl (by kernel_rfl) inz27 ?_
  intro w8 M
  replace M : Mem w [⟨g1, .cells (arr 20 r3) 27⟩, ⟨g2, .cells (arr 20 (fun _ => 0)) 27⟩] w8 := M
  refine pl_nil ?_
  refine au_block ?_
  refine au_then ?_
  refine rg_lit ?_
  refine pv 10 (.int .i64 3) ?_
  refine pv 6 (.int .i64 3) ?_
  refine nt ?_
  refine rounds_go ?_
  refine sr ?_
  refine pv 7 (.bool true) ?_
  refine nt ?_
  refine wp_seq ?_
  refine wp_cond_true (by kernel_rfl) ?_
  refine wp_skip ?_
  refine au_then ?_
  refine wp_seq ?_
  refine wp_block ?_
  refine rg_lit ?_
  refine pl_load M (want_no rfl) (some 8) rfl 27 _ rfl 0 g1 0 (by kernel_rfl) 20 27 r3 rfl 20 r3 (Part.all _ _) (by decide) _ Tryz.underlying27 rfl inz27 ?_
  refine pl_call M (want_no rfl) (some 9) rfl 87 #[.agg (arr 20 r3)] (.agg (arr 20 r4)) (fun _ => by kernel_rfl) F.h4 ?_
  intro w9 M
  refine pl_put M (want_no rfl) rfl 27 _ _ rfl 0 g1 (by kernel_rfl) 20 27 r3 r4 rfl (by kernel_rfl) inz27 ?_
  intro w10 M
  replace M : Mem w [⟨g1, .cells (arr 20 r4) 27⟩, ⟨g2, .cells (arr 20 (fun _ => 0)) 27⟩] w10 := M
  refine pl_nil ?_
  refine au_block ?_
  refine au_then ?_
  refine rg_lit ?_
  refine pv 10 (.int .i64 4) ?_
  refine pv 6 (.int .i64 4) ?_
  refine nt ?_
  refine rounds_go ?_
  refine sr ?_
  refine pv 7 (.bool false) ?_
  refine nt ?_
  refine wp_seq ?_
  refine wp_cond_false (by kernel_rfl) ?_
  refine wp_exit ?_
  refine au_then_exit ?_
  refine au_then_exit ?_
  refine au_block_exit ?_
  refine au_then ?_
  refine sr ?_
  refine pl_load M (want_no rfl) (some 11) rfl 27 _ rfl 0 g1 0 (by kernel_rfl) 20 27 r4 rfl 20 r4 (Part.all _ _) (by decide) _ Tryz.underlying27 rfl inz27 ?_
  refine pl_put M (want_no rfl) rfl 27 _ _ rfl 1 g2 (by kernel_rfl) 20 27 (fun _ => 0) r4 rfl (by kernel_rfl) inz27 ?_
  intro w11 M
  replace M : Mem w [⟨g1, .cells (arr 20 r4) 27⟩, ⟨g2, .cells (arr 20 r4) 27⟩] w11 := M
  refine nt ?_
  refine wp_ret ?_
  exact bodyPost_ret (v := .agg (arr 20 r4)) (results_cell_row Tryz.results57 _ _ g2 27 (arr 20 r4) (0, 0) _ (by kernel_rfl) (M.get 1 rfl) Tryz.underlying27 rfl (by rw [arr_size]; exact inz27)) (by kernel_rfl) ⟨rfl, M.old⟩

def d4 (p : P5) : P5 := dblF (dblF (dblF (dblF p)))
theorem d4_ok {p : P5} (hp : p.Ok) : (d4 p).Ok := dblF_ok (dblF_ok (dblF_ok (dblF_ok hp)))
theorem c_dbl4 (p : P5) (w : World) (hp : p.Ok) : Calls Tryz.prog 57 #[.agg (arr 20 p.f), .int .i64 4] w fun r w' => r = .returned (.agg (arr 20 (d4 p).f)) ∧ Below w.heap.size w w' :=
  dbl4_gen p.f (dblF p).f (dblF (dblF p)).f (dblF (dblF (dblF p))).f (d4 p).f w { h1 := fun w => c_double p w hp, h2 := fun w => c_double _ w (dblF_ok hp), h3 := fun w => c_double _ w (dblF_ok (dblF_ok hp)), h4 := fun w => c_double _ w (dblF_ok (dblF_ok (dblF_ok hp))) }
/-- The point as often as k tells, one by one. -/
def mulT (p : P5) : Nat → P5
  | 0 => zero5
  | k + 1 => sumF (mulT p k) p
theorem mulT_ok {p : P5} (hp : p.Ok) : ∀ k, (mulT p k).Ok
  | 0 => zero5_ok
  | k + 1 => sumF_ok (mulT_ok hp k) hp
/-- The first n of them, one behind the other. -/
def fw (p : P5) (n : Nat) : Nat → Int := fun i => if i / 20 < n then (mulT p (i / 20)).f (i % 20) else 0
theorem fw_part (p : P5) {n k : Nat} (h : k < n) : Part (fw p n) (k * 20) 20 (mulT p k).f := fun i hi => by
  unfold fw
  rw [show (k * 20 + i) / 20 = k by omega, show (k * 20 + i) % 20 = i by omega, if_pos h]
theorem fw_one (p : P5) : arr 320 (fw p 1) = arr 320 (fun i => if i < 20 then zero5.f i else 0) := by
  apply Array.ext_getElem?
  intro i
  by_cases hi : i < 320
  · rw [arr_get _ _ _ hi, arr_get _ _ _ hi]
    unfold fw
    by_cases h : i < 20
    · rw [if_pos (by omega), if_pos h, show i / 20 = 0 by omega, show i % 20 = i by omega]
      rfl
    · rw [if_neg (by omega), if_neg h]
  · rw [Array.getElem?_eq_none (by rw [arr_size]; omega), Array.getElem?_eq_none (by rw [arr_size]; omega)]
theorem fw_next (p : P5) (k : Nat) : ∀ j, j < 320 → (if k * 20 ≤ j ∧ j < k * 20 + 20 then (mulT p k).f (j - k * 20) else fw p k j) = fw p (k + 1) j := fun j _ => by
  unfold fw
  by_cases h : k * 20 ≤ j ∧ j < k * 20 + 20
  · rw [if_pos h, show j / 20 = k by omega, if_pos (by omega), show j - k * 20 = j % 20 by omega]
  · rw [if_neg h]
    by_cases h2 : j / 20 < k
    · rw [if_pos h2, if_pos (by omega)]
    · rw [if_neg h2, if_neg (by omega)]

structure fewF (p : P5)  : Prop where
  h0 : True

set_option maxRecDepth 100000 in
set_option maxHeartbeats 4000000 in
theorem few_gen (p : P5)  (w : World) (_F : fewF p ) (hp : p.Ok) :
    Calls Tryz.prog 55 #[.agg (arr 20 p.f)] w fun r w' => r = .returned (.agg (arr 320 (fw p (15 + 1)))) ∧ Below w.heap.size w w' := by
  go_enter Tryz.func55, Tryz.ntmps55
  have M := Mem.start w
  refine sr ?_
  refine pl_new M (want_no rfl) (some 1) rfl (.cells (arr 20 p.f) 27) (fun _ => by kernel_rfl) ?_
  intro g1 w1 M
  replace M : Mem w [⟨g1, .cells (arr 20 p.f) 27⟩] w1 := M
  refine pl_new M (want_no rfl) (some 2) rfl (.cells (arr 320 (fun _ => 0)) 84) (fun _ => by kernel_rfl) ?_
  intro g2 w2 M
  replace M : Mem w [⟨g1, .cells (arr 20 p.f) 27⟩, ⟨g2, .cells (arr 320 (fun _ => 0)) 84⟩] w2 := M
  refine nt ?_
  refine sr ?_
  refine pl_call M (want_no rfl) (some 5) rfl 19 #[] (.agg (arr 20 zero5.f)) (fun _ => by kernel_rfl) c_zero ?_
  intro w3 M
  refine pl_val (want_no rfl) (some 6) rfl (.agg (arr 320 (fw p 1))) (fun w => Eq.trans (b := .ok (.value (.agg (arr 320 (fun i => if i < 20 then zero5.f i else 0)))) w) (by kernel_rfl) (by rw [fw_one])) ?_
  refine pl_new M (want_no rfl) (some 3) rfl (.cells (arr 320 (fun _ => 0)) 84) (fun _ => by kernel_rfl) ?_
  intro g3 w4 M
  replace M : Mem w [⟨g1, .cells (arr 20 p.f) 27⟩, ⟨g2, .cells (arr 320 (fun _ => 0)) 84⟩, ⟨g3, .cells (arr 320 (fun _ => 0)) 84⟩] w4 := M
  refine pl_put M (want_no rfl) rfl 84 _ _ rfl 2 g3 (by kernel_rfl) 320 84 (fun _ => 0) (fw p 1) rfl (by kernel_rfl) inz84 ?_
  intro w5 M
  replace M : Mem w [⟨g1, .cells (arr 20 p.f) 27⟩, ⟨g2, .cells (arr 320 (fun _ => 0)) 84⟩, ⟨g3, .cells (arr 320 (fw p 1)) 84⟩] w5 := M
  refine nt ?_
  refine wp_seq ?_
  refine sr ?_
  refine pv 4 (.int .i64 1) ?_
  refine nt ?_
  refine wp_block ?_
  refine au_loop (fun j a w' => ∃ (v : Nat → Value), a = ⟨#[.agg (arr 20 p.f), .pointer (some ⟨g1, 0, none⟩), .pointer (some ⟨g2, 0, none⟩), .pointer (some ⟨g3, 0, none⟩), .int .i64 ((j + 1 : Nat) : Int), .agg (arr 20 zero5.f), .agg (arr 320 (fw p 1)), v 7, v 8, v 9, v 10, v 11, v 12, v 13, v 14, v 15, v 16, v 17, v 18, undef], []⟩ ∧ Mem w [⟨g1, .cells (arr 20 p.f) 27⟩, ⟨g2, .cells (arr 320 (fun _ => 0)) 84⟩, ⟨g3, .cells (arr 320 (fw p (j + 1))) 84⟩] w') 15 ⟨fun _ => undef, by kernel_rfl, M⟩ ?_ ?_
  · intro j a w1 hj hI
    obtain ⟨v, rfl, M⟩ := hI
    refine wp_seq ?_
    refine sr ?_
    refine pv 7 (.int .i64 ((j + 1 : Nat) : Int)) ?_
    refine pl_val (want_no rfl) (some 8) rfl (.bool true) (fun w => Eq.trans (b := .ok (.value (.bool (decide (((j + 1 : Nat) : Int) < 16)))) w) (by kernel_rfl) (by rw [decide_eq_true (by omega)])) ?_
    refine nt ?_
    refine wp_cond_true (by kernel_rfl) ?_
    refine wp_skip ?_
    refine au_then ?_
    refine wp_seq ?_
    refine wp_block ?_
    refine rg_tail M 8 (by kernel_rfl) (by kernel_rfl) ?_
    simp only [List.take_succ_cons, List.take_zero]
    refine kv 11 (.int .i64 ((j + 1 : Nat) : Int)) ?_
    refine kv 12 (.int .i64 ((j + 1 : Nat) : Int)) ?_
    refine k_val (want_no rfl) (some 13) rfl (.int .i64 (j : Int)) (fun w => Eq.trans (b := .ok (.value (.int .i64 (IntKind.wrap .i64 (((j + 1 : Nat) : Int) - 1)))) w) (by kernel_rfl) (by rw [wrap64 (by omega) (by omega)]; rw [show ((j + 1 : Nat) : Int) - 1 = (j : Int) by omega])) ?_
    refine k_val (want_no rfl) (some 14) rfl (.pointer (some ⟨g3, j * 20, none⟩)) (fun w => run_ix 84 16 20 27 Tryz.underlying84 inz27 _ _ rfl g3 (by kernel_rfl) .i64 j (by kernel_rfl) (by omega) w) ?_
    refine k_load M (want_no rfl) (some 15) rfl 27 _ rfl 2 g3 (j * 20) (by kernel_rfl) 320 84 (fw p (j + 1)) rfl 20 (mulT p j).f (fw_part p (by omega)) (by omega) _ Tryz.underlying27 rfl inz27 ?_
    refine k_load M (want_no rfl) (some 16) rfl 27 _ rfl 0 g1 0 (by kernel_rfl) 20 27 p.f rfl 20 p.f (Part.all _ _) (by decide) _ Tryz.underlying27 rfl inz27 ?_
    refine k_call (want_no rfl) (some 17) rfl 53 #[.agg (arr 20 (mulT p j).f), .agg (arr 20 p.f)] (.agg (arr 20 (mulT p (j + 1)).f)) (fun _ => by kernel_rfl) (fun w => c_plus (mulT p j) p w (mulT_ok hp j) hp) ?_
    refine k_val (want_no rfl) (some 18) rfl (.pointer (some ⟨g3, (j + 1) * 20, none⟩)) (fun w => run_ix 84 16 20 27 Tryz.underlying84 inz27 _ _ rfl g3 (by kernel_rfl) .i64 (j + 1) (by kernel_rfl) (by omega) w) ?_
    refine kl_nil ?_
    intro w6 M
    replace M : Mem w [⟨g1, .cells (arr 20 p.f) 27⟩, ⟨g2, .cells (arr 320 (fun _ => 0)) 84⟩, ⟨g3, .cells (arr 320 (fw p (j + 1))) 84⟩] w6 := M
    refine pl_putm M (want_no rfl) rfl 27 _ _ rfl 2 g3 ((j + 1) * 20) (by kernel_rfl) 320 84 (fw p (j + 1)) rfl 20 (mulT p (j + 1)).f (fw p (j + 1 + 1)) (by kernel_rfl) inz27 (by omega) (fw_next p (j + 1)) ?_
    intro w7 M
    replace M : Mem w [⟨g1, .cells (arr 20 p.f) 27⟩, ⟨g2, .cells (arr 320 (fun _ => 0)) 84⟩, ⟨g3, .cells (arr 320 (fw p (j + 1 + 1))) 84⟩] w7 := M
    refine pl_nil ?_
    refine au_block ?_
    refine au_then ?_
    refine rg_lit ?_
    refine pv 9 (.int .i64 ((j + 1 : Nat) : Int)) ?_
    refine pl_val (want_no rfl) (some 10) rfl (.int .i64 ((j + 1 + 1 : Nat) : Int)) (fun w => Eq.trans (b := .ok (.value (.int .i64 (IntKind.wrap .i64 (((j + 1 : Nat) : Int) + 1)))) w) (by kernel_rfl) (by rw [wrap64 (by omega) (by omega)]; rfl)) ?_
    refine pv 4 (.int .i64 ((j + 1 + 1 : Nat) : Int)) ?_
    refine nt ?_
    exact ⟨fun k => ([.int .i64 ((j + 1 : Nat) : Int), .bool true, .int .i64 ((j + 1 : Nat) : Int), .int .i64 ((j + 1 + 1 : Nat) : Int), .int .i64 ((j + 1 : Nat) : Int), .int .i64 ((j + 1 : Nat) : Int), .int .i64 (j : Int), .pointer (some ⟨g3, j * 20, none⟩), .agg (arr 20 (mulT p j).f), .agg (arr 20 p.f), .agg (arr 20 (mulT p (j + 1)).f), .pointer (some ⟨g3, (j + 1) * 20, none⟩)] : List Value).getD (k - 7) undef, by kernel_rfl, M⟩
  · intro a w1 hI
    obtain ⟨v, rfl, M⟩ := hI
    refine wp_seq ?_
    refine sr ?_
    refine pv 7 (.int .i64 ((15 + 1 : Nat) : Int)) ?_
    refine pl_val (want_no rfl) (some 8) rfl (.bool false) (fun w => Eq.trans (b := .ok (.value (.bool (decide (((15 + 1 : Nat) : Int) < 16)))) w) (by kernel_rfl) (by rw [decide_eq_false (by omega)])) ?_
    refine nt ?_
    refine wp_cond_false (by kernel_rfl) ?_
    refine wp_exit ?_
    refine au_then_exit ?_
    refine au_then_exit ?_
    refine au_block_exit ?_
    refine au_then ?_
    refine sr ?_
    refine pl_load M (want_no rfl) (some 19) rfl 84 _ rfl 2 g3 0 (by kernel_rfl) 320 84 (fw p (15 + 1)) rfl 320 (fw p (15 + 1)) (Part.all _ _) (by decide) _ Tryz.underlying84 rfl inz84 ?_
    refine pl_put M (want_no rfl) rfl 84 _ _ rfl 1 g2 (by kernel_rfl) 320 84 (fun _ => 0) (fw p (15 + 1)) rfl (by kernel_rfl) inz84 ?_
    intro w8 M
    replace M : Mem w [⟨g1, .cells (arr 20 p.f) 27⟩, ⟨g2, .cells (arr 320 (fw p (15 + 1))) 84⟩, ⟨g3, .cells (arr 320 (fw p (15 + 1))) 84⟩] w8 := M
    refine nt ?_
    refine wp_ret ?_
    exact bodyPost_ret (v := .agg (arr 320 (fw p (15 + 1)))) (results_cell_row Tryz.results55 _ _ g2 84 (arr 320 (fw p (15 + 1))) (0, 0) _ (by kernel_rfl) (M.get 1 rfl) Tryz.underlying84 rfl (by rw [arr_size]; exact inz84)) (by kernel_rfl) ⟨rfl, M.old⟩
theorem c_few (p : P5) (w : World) (hp : p.Ok) : Calls Tryz.prog 55 #[.agg (arr 20 p.f)] w fun r w' => r = .returned (.agg (arr 320 (fw p 16))) ∧ Below w.heap.size w w' := few_gen p w ⟨trivial⟩ hp

end Go.Proofs.YtkeocdebfgcnnaaGreat

/- Mul: a point, added as often as a scalar tells. -/
namespace Go.Proofs.YtkeocdebfgcnnaaGreat
open Go.RowKit

/-- The point, doubled and added to as the first j bytes from the highest on tell. -/
def acc (p : P5) (s : ByteArray) : Nat → P5
  | 0 => zero5
  | j + 1 => sumF (d4 (sumF (d4 (acc p s j)) (mulT p (bt s (31 - j) / 16).toNat))) (mulT p (bt s (31 - j) % 16).toNat)
theorem acc_ok {p : P5} (hp : p.Ok) (s : ByteArray) : ∀ j, (acc p s j).Ok
  | 0 => zero5_ok
  | j + 1 => sumF_ok (d4_ok (sumF_ok (d4_ok (acc_ok hp s j)) (mulT_ok hp _))) (mulT_ok hp _)
theorem bits_lo {x : Int} (h0 : 0 ≤ x) (h1 : x < 256) : bits .and .u8 x 15 = x % 16 := by
  obtain ⟨n, rfl⟩ : ∃ n : Nat, x = n := ⟨x.toNat, by omega⟩
  have h : ∀ n : Fin 256, bits .and .u8 ((n.val : Nat) : Int) 15 = ((n.val : Nat) : Int) % 16 := by decide +kernel
  exact h ⟨n, by omega⟩

structure mulYF (p : P5) (k : Nat → Int) (s : ByteArray)  : Prop where
  h0 : True

set_option maxRecDepth 100000 in
set_option maxHeartbeats 4000000 in
theorem mulY_gen (p : P5) (k : Nat → Int) (s : ByteArray)  (w : World) (_F : mulYF p k s ) (hp : p.Ok) (hn : noneB p = false) (hs : s.size = 32) (hB : ∀ w, Calls Tryz.prog 56 #[.agg (arr 4 k)] w fun r w' => r = .returned (.string s) ∧ Below w.heap.size w w') :
    Calls Tryz.prog 15 #[.agg (arr 20 p.f), .agg (arr 4 k)] w fun r w' => r = .returned (.agg (arr 20 (acc p s 32).f)) ∧ Below w.heap.size w w' := by
  go_enter Tryz.func15, Tryz.ntmps15
  have M := Mem.start w
  refine sr ?_
  refine pl_new M (want_no rfl) (some 2) rfl (.cells (arr 20 p.f) 27) (fun _ => by kernel_rfl) ?_
  intro g1 w1 M
  replace M : Mem w [⟨g1, .cells (arr 20 p.f) 27⟩] w1 := M
  refine pl_new M (want_no rfl) (some 3) rfl (.cells (arr 4 k) 34) (fun _ => by kernel_rfl) ?_
  intro g2 w2 M
  replace M : Mem w [⟨g1, .cells (arr 20 p.f) 27⟩, ⟨g2, .cells (arr 4 k) 34⟩] w2 := M
  refine pl_new M (want_no rfl) (some 4) rfl (.cells (arr 20 (fun _ => 0)) 27) (fun _ => by kernel_rfl) ?_
  intro g3 w3 M
  replace M : Mem w [⟨g1, .cells (arr 20 p.f) 27⟩, ⟨g2, .cells (arr 4 k) 34⟩, ⟨g3, .cells (arr 20 (fun _ => 0)) 27⟩] w3 := M
  refine nt ?_
  refine wp_seq ?_
  refine sr ?_
  refine pl_load M (want_no rfl) (some 9) rfl 27 _ rfl 0 g1 0 (by kernel_rfl) 20 27 p.f rfl 20 p.f (Part.all _ _) (by decide) _ Tryz.underlying27 rfl inz27 ?_
  refine pl_call M (want_no rfl) (some 10) rfl 52 #[.agg (arr 20 p.f)] (.bool false) (fun _ => by kernel_rfl) (none_b hp hn) ?_
  intro w4 M
  refine nt ?_
  refine wp_cond_false (by kernel_rfl) ?_
  refine wp_skip ?_
  refine au_then ?_
  refine sr ?_
  refine pl_load M (want_no rfl) (some 12) rfl 27 _ rfl 0 g1 0 (by kernel_rfl) 20 27 p.f rfl 20 p.f (Part.all _ _) (by decide) _ Tryz.underlying27 rfl inz27 ?_
  refine pl_call M (want_no rfl) (some 13) rfl 55 #[.agg (arr 20 p.f)] (.agg (arr 320 (fw p 16))) (fun _ => by kernel_rfl) (fun w => c_few p w hp) ?_
  intro w5 M
  refine pl_new M (want_no rfl) (some 5) rfl (.cells (arr 320 (fun _ => 0)) 84) (fun _ => by kernel_rfl) ?_
  intro g4 w6 M
  replace M : Mem w [⟨g1, .cells (arr 20 p.f) 27⟩, ⟨g2, .cells (arr 4 k) 34⟩, ⟨g3, .cells (arr 20 (fun _ => 0)) 27⟩, ⟨g4, .cells (arr 320 (fun _ => 0)) 84⟩] w6 := M
  refine pl_put M (want_no rfl) rfl 84 _ _ rfl 3 g4 (by kernel_rfl) 320 84 (fun _ => 0) (fw p 16) rfl (by kernel_rfl) inz84 ?_
  intro w7 M
  replace M : Mem w [⟨g1, .cells (arr 20 p.f) 27⟩, ⟨g2, .cells (arr 4 k) 34⟩, ⟨g3, .cells (arr 20 (fun _ => 0)) 27⟩, ⟨g4, .cells (arr 320 (fw p 16)) 84⟩] w7 := M
  refine nt ?_
  refine sr ?_
  refine pl_load M (want_no rfl) (some 14) rfl 34 _ rfl 1 g2 0 (by kernel_rfl) 4 34 k rfl 4 k (Part.all _ _) (by decide) _ Tryz.underlying34 rfl inz34 ?_
  refine pl_call M (want_no rfl) (some 15) rfl 56 #[.agg (arr 4 k)] (.string s) (fun _ => by kernel_rfl) hB ?_
  intro w8 M
  refine pv 6 (.string s) ?_
  refine nt ?_
  refine sr ?_
  refine pl_call M (want_no rfl) (some 16) rfl 19 #[] (.agg (arr 20 zero5.f)) (fun _ => by kernel_rfl) c_zero ?_
  intro w9 M
  refine pl_new M (want_no rfl) (some 7) rfl (.cells (arr 20 (fun _ => 0)) 27) (fun _ => by kernel_rfl) ?_
  intro g5 w10 M
  replace M : Mem w [⟨g1, .cells (arr 20 p.f) 27⟩, ⟨g2, .cells (arr 4 k) 34⟩, ⟨g3, .cells (arr 20 (fun _ => 0)) 27⟩, ⟨g4, .cells (arr 320 (fw p 16)) 84⟩, ⟨g5, .cells (arr 20 (fun _ => 0)) 27⟩] w10 := M
  refine pl_put M (want_no rfl) rfl 27 _ _ rfl 4 g5 (by kernel_rfl) 20 27 (fun _ => 0) zero5.f rfl (by kernel_rfl) inz27 ?_
  intro w11 M
  replace M : Mem w [⟨g1, .cells (arr 20 p.f) 27⟩, ⟨g2, .cells (arr 4 k) 34⟩, ⟨g3, .cells (arr 20 (fun _ => 0)) 27⟩, ⟨g4, .cells (arr 320 (fw p 16)) 84⟩, ⟨g5, .cells (arr 20 zero5.f) 27⟩] w11 := M
  refine nt ?_
  refine wp_seq ?_
  refine sr ?_
  refine pv 8 (.int .i64 31) ?_
  refine nt ?_
  refine wp_block ?_
  refine au_loop (fun j a w' => ∃ (m : Int) (v : Nat → Value), m = 31 - (j : Int) ∧ a = ⟨#[.agg (arr 20 p.f), .agg (arr 4 k), .pointer (some ⟨g1, 0, none⟩), .pointer (some ⟨g2, 0, none⟩), .pointer (some ⟨g3, 0, none⟩), .pointer (some ⟨g4, 0, none⟩), .string s, .pointer (some ⟨g5, 0, none⟩), .int .i64 m, .agg (arr 20 p.f), .bool false, undef, .agg (arr 20 p.f), .agg (arr 320 (fw p 16)), .agg (arr 4 k), .string s, .agg (arr 20 zero5.f), v 17, v 18, v 19, v 20, v 21, v 22, v 23, v 24, v 25, v 26, v 27, v 28, v 29, v 30, v 31, v 32, v 33, v 34, v 35, v 36, v 37, v 38, undef], []⟩ ∧ Mem w [⟨g1, .cells (arr 20 p.f) 27⟩, ⟨g2, .cells (arr 4 k) 34⟩, ⟨g3, .cells (arr 20 (fun _ => 0)) 27⟩, ⟨g4, .cells (arr 320 (fw p 16)) 84⟩, ⟨g5, .cells (arr 20 (acc p s j).f) 27⟩] w') 32 ⟨31, fun _ => undef, rfl, by kernel_rfl, M⟩ ?_ ?_
  · intro j a w1 hj hI
    obtain ⟨m0, v, hm, rfl, M⟩ := hI
    obtain ⟨m, rfl⟩ : ∃ m : Nat, m0 = m := ⟨31 - j, by omega⟩
    have hb := bt_bd s m
    obtain ⟨h, hh⟩ : ∃ h : Nat, bt s m / 16 = h := ⟨(bt s m / 16).toNat, by omega⟩
    obtain ⟨l, hl⟩ : ∃ l : Nat, bt s m % 16 = l := ⟨(bt s m % 16).toNat, by omega⟩
    have hA : acc p s (j + 1) = sumF (d4 (sumF (d4 (acc p s j)) (mulT p h))) (mulT p l) := by
      show sumF (d4 (sumF (d4 (acc p s j)) (mulT p (bt s (31 - j) / 16).toNat))) (mulT p (bt s (31 - j) % 16).toNat) = _
      rw [show 31 - j = m by omega, hh, hl, Int.toNat_natCast, Int.toNat_natCast]
    refine wp_seq ?_
    refine sr ?_
    refine pv 17 (.int .i64 (m : Int)) ?_
    refine pl_val (want_no rfl) (some 18) rfl (.bool true) (fun w => Eq.trans (b := .ok (.value (.bool (decide (0 ≤ (m : Int))))) w) (by kernel_rfl) (by rw [decide_eq_true (by omega)])) ?_
    refine nt ?_
    refine wp_cond_true (by kernel_rfl) ?_
    refine wp_skip ?_
    refine au_then ?_
    refine wp_seq ?_
    refine wp_block ?_
    refine wp_seq ?_
    refine rg_tail M 9 (by kernel_rfl) (by kernel_rfl) ?_
    simp only [List.take_succ_cons, List.take_zero]
    refine k_load M (want_no rfl) (some 21) rfl 27 _ rfl 4 g5 0 (by kernel_rfl) 20 27 (acc p s j).f rfl 20 (acc p s j).f (Part.all _ _) (by decide) _ Tryz.underlying27 rfl inz27 ?_
    refine k_call (want_no rfl) (some 22) rfl 57 #[.agg (arr 20 (acc p s j).f), .int .i64 4] (.agg (arr 20 (d4 (acc p s j)).f)) (fun _ => by kernel_rfl) (fun w => c_dbl4 (acc p s j) w (acc_ok hp s j)) ?_
    refine kv 23 (.string s) ?_
    refine kv 24 (.int .i64 (m : Int)) ?_
    refine k_val (want_no rfl) (some 25) rfl (.int .u8 (bt s m)) (fun w => run_ixS 9 Tryz.underlying9 _ _ rfl s (by kernel_rfl) .i64 m (by kernel_rfl) (by omega) w) ?_
    refine k_val (want_no rfl) (some 26) rfl (.int .u8 (h : Int)) (fun w => run_bin .shr 5 _ _ rfl (by kernel_rfl) (by kernel_rfl) (fun _ => by kernel_rfl) (fun w => by rw [← hh]; exact run_shr4 _ w) w) ?_
    refine k_val (want_no rfl) (some 27) rfl (.pointer (some ⟨g4, h * 20, none⟩)) (fun w => run_ix 84 16 20 27 Tryz.underlying84 inz27 _ _ rfl g4 (by kernel_rfl) .u8 h (by kernel_rfl) (by omega) w) ?_
    refine k_load M (want_no rfl) (some 28) rfl 27 _ rfl 3 g4 (h * 20) (by kernel_rfl) 320 84 (fw p 16) rfl 20 (mulT p h).f (fw_part p (by omega)) (by omega) _ Tryz.underlying27 rfl inz27 ?_
    refine k_call (want_no rfl) (some 29) rfl 53 #[.agg (arr 20 (d4 (acc p s j)).f), .agg (arr 20 (mulT p h).f)] (.agg (arr 20 (sumF (d4 (acc p s j)) (mulT p h)).f)) (fun _ => by kernel_rfl) (fun w => c_plus (d4 (acc p s j)) (mulT p h) w (d4_ok (acc_ok hp s j)) (mulT_ok hp _)) ?_
    refine kl_nil ?_
    intro w12 M
    replace M : Mem w [⟨g1, .cells (arr 20 p.f) 27⟩, ⟨g2, .cells (arr 4 k) 34⟩, ⟨g3, .cells (arr 20 (fun _ => 0)) 27⟩, ⟨g4, .cells (arr 320 (fw p 16)) 84⟩, ⟨g5, .cells (arr 20 (acc p s j).f) 27⟩] w12 := M
    refine pl_put M (want_no rfl) rfl 27 _ _ rfl 4 g5 (by kernel_rfl) 20 27 (acc p s j).f (sumF (d4 (acc p s j)) (mulT p h)).f rfl (by kernel_rfl) inz27 ?_
    intro w13 M
    replace M : Mem w [⟨g1, .cells (arr 20 p.f) 27⟩, ⟨g2, .cells (arr 4 k) 34⟩, ⟨g3, .cells (arr 20 (fun _ => 0)) 27⟩, ⟨g4, .cells (arr 320 (fw p 16)) 84⟩, ⟨g5, .cells (arr 20 (sumF (d4 (acc p s j)) (mulT p h)).f) 27⟩] w13 := M
    refine nt ?_
    refine rg_tail M 9 (by kernel_rfl) (by kernel_rfl) ?_
    simp only [List.take_succ_cons, List.take_zero]
    refine k_load M (want_no rfl) (some 30) rfl 27 _ rfl 4 g5 0 (by kernel_rfl) 20 27 (sumF (d4 (acc p s j)) (mulT p h)).f rfl 20 (sumF (d4 (acc p s j)) (mulT p h)).f (Part.all _ _) (by decide) _ Tryz.underlying27 rfl inz27 ?_
    refine k_call (want_no rfl) (some 31) rfl 57 #[.agg (arr 20 (sumF (d4 (acc p s j)) (mulT p h)).f), .int .i64 4] (.agg (arr 20 (d4 (sumF (d4 (acc p s j)) (mulT p h))).f)) (fun _ => by kernel_rfl) (fun w => c_dbl4 (sumF (d4 (acc p s j)) (mulT p h)) w (sumF_ok (d4_ok (acc_ok hp s j)) (mulT_ok hp _))) ?_
    refine kv 32 (.string s) ?_
    refine kv 33 (.int .i64 (m : Int)) ?_
    refine k_val (want_no rfl) (some 34) rfl (.int .u8 (bt s m)) (fun w => run_ixS 9 Tryz.underlying9 _ _ rfl s (by kernel_rfl) .i64 m (by kernel_rfl) (by omega) w) ?_
    refine k_val (want_no rfl) (some 35) rfl (.int .u8 (l : Int)) (fun w => Eq.trans (b := .ok (.value (.int .u8 (bits .and .u8 (bt s m) 15))) w) (by kernel_rfl) (by rw [bits_lo hb.1 hb.2, hl])) ?_
    refine k_val (want_no rfl) (some 36) rfl (.pointer (some ⟨g4, l * 20, none⟩)) (fun w => run_ix 84 16 20 27 Tryz.underlying84 inz27 _ _ rfl g4 (by kernel_rfl) .u8 l (by kernel_rfl) (by omega) w) ?_
    refine k_load M (want_no rfl) (some 37) rfl 27 _ rfl 3 g4 (l * 20) (by kernel_rfl) 320 84 (fw p 16) rfl 20 (mulT p l).f (fw_part p (by omega)) (by omega) _ Tryz.underlying27 rfl inz27 ?_
    refine k_call (want_no rfl) (some 38) rfl 53 #[.agg (arr 20 (d4 (sumF (d4 (acc p s j)) (mulT p h))).f), .agg (arr 20 (mulT p l).f)] (.agg (arr 20 (sumF (d4 (sumF (d4 (acc p s j)) (mulT p h))) (mulT p l)).f)) (fun _ => by kernel_rfl) (fun w => c_plus (d4 (sumF (d4 (acc p s j)) (mulT p h))) (mulT p l) w (d4_ok (sumF_ok (d4_ok (acc_ok hp s j)) (mulT_ok hp _))) (mulT_ok hp _)) ?_
    refine kl_nil ?_
    intro w14 M
    replace M : Mem w [⟨g1, .cells (arr 20 p.f) 27⟩, ⟨g2, .cells (arr 4 k) 34⟩, ⟨g3, .cells (arr 20 (fun _ => 0)) 27⟩, ⟨g4, .cells (arr 320 (fw p 16)) 84⟩, ⟨g5, .cells (arr 20 (sumF (d4 (acc p s j)) (mulT p h)).f) 27⟩] w14 := M
    refine pl_put M (want_no rfl) rfl 27 _ _ rfl 4 g5 (by kernel_rfl) 20 27 (sumF (d4 (acc p s j)) (mulT p h)).f (sumF (d4 (sumF (d4 (acc p s j)) (mulT p h))) (mulT p l)).f rfl (by kernel_rfl) inz27 ?_
    intro w15 M
    replace M : Mem w [⟨g1, .cells (arr 20 p.f) 27⟩, ⟨g2, .cells (arr 4 k) 34⟩, ⟨g3, .cells (arr 20 (fun _ => 0)) 27⟩, ⟨g4, .cells (arr 320 (fw p 16)) 84⟩, ⟨g5, .cells (arr 20 (sumF (d4 (sumF (d4 (acc p s j)) (mulT p h))) (mulT p l)).f) 27⟩] w15 := M
    refine pl_nil ?_
    refine au_block ?_
    refine au_then ?_
    refine rg_lit ?_
    refine pv 19 (.int .i64 (m : Int)) ?_
    refine pl_val (want_no rfl) (some 20) rfl (.int .i64 ((m : Int) - 1)) (fun w => Eq.trans (b := .ok (.value (.int .i64 (IntKind.wrap .i64 ((m : Int) - 1)))) w) (by kernel_rfl) (by rw [wrap64 (by omega) (by omega)])) ?_
    refine pv 8 (.int .i64 ((m : Int) - 1)) ?_
    refine nt ?_
    refine ⟨(m : Int) - 1, fun k => ([.int .i64 (m : Int), .bool true, .int .i64 (m : Int), .int .i64 ((m : Int) - 1), .agg (arr 20 (acc p s j).f), .agg (arr 20 (d4 (acc p s j)).f), .string s, .int .i64 (m : Int), .int .u8 (bt s m), .int .u8 (h : Int), .pointer (some ⟨g4, h * 20, none⟩), .agg (arr 20 (mulT p h).f), .agg (arr 20 (sumF (d4 (acc p s j)) (mulT p h)).f), .agg (arr 20 (sumF (d4 (acc p s j)) (mulT p h)).f), .agg (arr 20 (d4 (sumF (d4 (acc p s j)) (mulT p h))).f), .string s, .int .i64 (m : Int), .int .u8 (bt s m), .int .u8 (l : Int), .pointer (some ⟨g4, l * 20, none⟩), .agg (arr 20 (mulT p l).f), .agg (arr 20 (sumF (d4 (sumF (d4 (acc p s j)) (mulT p h))) (mulT p l)).f)] : List Value).getD (k - 17) undef, by omega, by kernel_rfl, ?_⟩
    rw [hA]
    exact M
  · intro a w1 hI
    obtain ⟨m, v, hm, rfl, M⟩ := hI
    refine wp_seq ?_
    refine sr ?_
    refine pv 17 (.int .i64 m) ?_
    refine pl_val (want_no rfl) (some 18) rfl (.bool false) (fun w => Eq.trans (b := .ok (.value (.bool (decide (0 ≤ m)))) w) (by kernel_rfl) (by rw [decide_eq_false (by omega)])) ?_
    refine nt ?_
    refine wp_cond_false (by kernel_rfl) ?_
    refine wp_exit ?_
    refine au_then_exit ?_
    refine au_then_exit ?_
    refine au_block_exit ?_
    refine au_then ?_
    refine sr ?_
    refine pl_load M (want_no rfl) (some 39) rfl 27 _ rfl 4 g5 0 (by kernel_rfl) 20 27 (acc p s 32).f rfl 20 (acc p s 32).f (Part.all _ _) (by decide) _ Tryz.underlying27 rfl inz27 ?_
    refine pl_put M (want_no rfl) rfl 27 _ _ rfl 2 g3 (by kernel_rfl) 20 27 (fun _ => 0) (acc p s 32).f rfl (by kernel_rfl) inz27 ?_
    intro w16 M
    replace M : Mem w [⟨g1, .cells (arr 20 p.f) 27⟩, ⟨g2, .cells (arr 4 k) 34⟩, ⟨g3, .cells (arr 20 (acc p s 32).f) 27⟩, ⟨g4, .cells (arr 320 (fw p 16)) 84⟩, ⟨g5, .cells (arr 20 (acc p s 32).f) 27⟩] w16 := M
    refine nt ?_
    refine wp_ret ?_
    exact bodyPost_ret (v := .agg (arr 20 (acc p s 32).f)) (results_cell_row Tryz.results15 _ _ g3 27 (arr 20 (acc p s 32).f) (0, 0) _ (by kernel_rfl) (M.get 2 rfl) Tryz.underlying27 rfl (by rw [arr_size]; exact inz27)) (by kernel_rfl) ⟨rfl, M.old⟩

end Go.Proofs.YtkeocdebfgcnnaaGreat
