/- Part 10 of the walks and facts. -/
import Derived.Test.YtmhfmhmpoobmlaaGreatDoorCxDef
import Derived.Test.YtmhfmhmpoobmlaaGreatDoorCx1
import Derived.Test.YtmhfmhmpoobmlaaGreatDoorCx2
import Derived.Test.YtmhfmhmpoobmlaaGreatDoorCx3
import Derived.Test.YtmhfmhmpoobmlaaGreatDoorCx4
import Derived.Test.YtmhfmhmpoobmlaaGreatDoorCx5
import Derived.Test.YtmhfmhmpoobmlaaGreatDoorCx6
import Derived.Test.YtmhfmhmpoobmlaaGreatDoorCy7
import Derived.Test.YtmhfmhmpoobmlaaGreatDoorCy8
import Derived.Test.YtmhfmhmpoobmlaaGreatDoorCy9
import Derived.Laws.StructEq
import Derived.Test.YtmhfmhmpoobmlaaGreatDoorRows
set_option maxHeartbeats 4000000
set_option maxRecDepth 100000
namespace Go.Proofs.YtmhfmhmpoobmlaaGreatDoor.Sha
open Go.RowKit
theorem c_verifies (p s x : ByteArray) (b0 : p.size ≤ 140737488351232) (b1 : s.size ≤ 140737488351232) (b2 : x.size ≤ 140737488351232) (w : World) (hL : Laid w)  :
  Cs 4 #[.string p, .string s, .string x] w (.bool true) := by
 go_enter Tryz.func4, Tryz.ntmps4
 have M := Mem.start hL
 refine sR <| pV 6 (.bool false) <| nT ?_
 refine wp_seq ?_
 refine wp_seq ?_
 by_cases hz : 2048 < p.size + s.size + x.size
 ·skip
  refine rg_lit ?_
  refine pV 7 (.string p) <| pV 8 (.int .i64 (p.size : Int)) <| pV 9 (.string s) <| pV 10 (.int .i64 (s.size : Int)) ?_
  refine pH 11 (.int .i64 ((p.size + s.size : Nat) : Int)) (iV ((p.size : Int) + (s.size : Int)) (by omega) (by omega) (by omega)) <| pV 12 (.string x) <| pV 13 (.int .i64 (x.size : Int)) <| pH 14 (.int .i64 ((p.size + s.size + x.size : Nat) : Int)) (iV (((p.size + s.size : Nat) : Int) + (x.size : Int)) (by omega) (by omega) (by omega)) ?_
  refine pH 15 (.bool true) (dT ((2048 : Int) < ((p.size + s.size + x.size : Nat) : Int)) (by omega)) <| nT ?_
  refine cT ?_
  refine sR ?_
  refine pC M 16 7 #[] (.bool true) (fun w M => c_alive w M.laid) fun u1 M => ?_
  refine pV 6 (.bool true) <| nT ?_
  refine wp_ret ?_
  refine au_then_ret ?_
  exact bodyPost_ret (v := .bool true) (results_tmp1 Tryz.results4 _ _ _ (by kernel_rfl)) (by kernel_rfl) ⟨rfl, below_grown M.old⟩
 ·skip
  refine rg_lit ?_
  refine pV 7 (.string p) <| pV 8 (.int .i64 (p.size : Int)) <| pV 9 (.string s) <| pV 10 (.int .i64 (s.size : Int)) ?_
  refine pH 11 (.int .i64 ((p.size + s.size : Nat) : Int)) (iV ((p.size : Int) + (s.size : Int)) (by omega) (by omega) (by omega)) <| pV 12 (.string x) <| pV 13 (.int .i64 (x.size : Int)) <| pH 14 (.int .i64 ((p.size + s.size + x.size : Nat) : Int)) (iV (((p.size + s.size : Nat) : Int) + (x.size : Int)) (by omega) (by omega) (by omega)) ?_
  refine pH 15 (.bool false) (dF ((2048 : Int) < ((p.size + s.size + x.size : Nat) : Int)) (by omega)) <| nT ?_
  refine cF ?_
  refine wp_skip ?_
  refine au_then ?_
  refine sR <| pV 17 (.string p) <| pV 18 (.string s) <| pV 19 (.string x) ?_
  refine pC M 20 12 #[.string p, .string s, .string x] (.bool (vfy p s x)) (fun w M => c_Verify p s x w M.laid) fun u2 M => ?_
  refine pV 21 (.string p) <| pV 22 (.string s) <| pV 23 (.string x) ?_
  refine pC M 24 13 #[.string p, .string s, .string x] (.bool (vfy p s x)) (fun w M => (by have e := c_rVerify p s x (by omega) w M.laid; rw [rvf_eq] at e; exact e)) fun u3 M => ?_
  refine pH 25 (.bool true) (fun w => Eq.trans (b := .ok (.value (.bool (vfy p s x == vfy p s x))) w) (by kernel_rfl) (by rw [beq_self_eq_true])) <| pV 26 (.bool true) ?_
  refine pl_call M (want_on 9 true rfl 26 rfl (by kernel_rfl)) (some 27) rfl 7 #[] (.bool true) (fun _ => by kernel_rfl) (fun w M => c_alive w M.laid) fun u4 M => ?_
  refine pV 28 (.bool true) <| pV 6 (.bool true) <| nT ?_
  refine wp_ret ?_
  exact bodyPost_ret (v := .bool true) (results_tmp1 Tryz.results4 _ _ _ (by kernel_rfl)) (by kernel_rfl) ⟨rfl, below_grown M.old⟩
end Go.Proofs.YtmhfmhmpoobmlaaGreatDoor.Sha
