/- Part 10 of the walks and facts. -/
import Derived.Test.YtmhfmhmpoobmlaaGreatDoorCxDef
import Derived.Test.YtmhfmhmpoobmlaaGreatDoorCx1
import Derived.Test.YtmhfmhmpoobmlaaGreatDoorCx2
import Derived.Test.YtmhfmhmpoobmlaaGreatDoorCx3
import Derived.Test.YtmhfmhmpoobmlaaGreatDoorCx4
import Derived.Test.YtmhfmhmpoobmlaaGreatDoorCx5
import Derived.Test.YtmhfmhmpoobmlaaGreatDoorCx6
import Derived.Test.YtmhfmhmpoobmlaaGreatDoorCz7
import Derived.Test.YtmhfmhmpoobmlaaGreatDoorCz8
import Derived.Test.YtmhfmhmpoobmlaaGreatDoorCz9
import Derived.Laws.StructEq
import Derived.Test.YtmhfmhmpoobmlaaGreatDoorRows
set_option maxHeartbeats 4000000
set_option maxRecDepth 100000
namespace Go.Proofs.YtmhfmhmpoobmlaaGreatDoor.Sha
open Go.RowKit
theorem c_signs (secret s : ByteArray) (b0 : secret.size ≤ 140737488351232) (b1 : s.size ≤ 140737488351232) (w : World) (hL : Laid w)  :
  Cs 3 #[.string secret, .string s] w (.bool true) := by
 go_enter Tryz.func3, Tryz.ntmps3
 have M := Mem.start hL
 refine sR <| pV 4 (.bool false) <| nT ?_
 refine wp_seq ?_
 refine wp_seq ?_
 by_cases hz : 2048 < secret.size + s.size
 ·skip
  refine rg_lit ?_
  refine pV 13 (.string secret) <| pV 14 (.int .i64 (secret.size : Int)) <| pV 15 (.string s) <| pV 16 (.int .i64 (s.size : Int)) ?_
  refine pH 17 (.int .i64 ((secret.size + s.size : Nat) : Int)) (iV ((secret.size : Int) + (s.size : Int)) (by omega) (by omega) (by omega)) <| pH 18 (.bool true) (dT ((2048 : Int) < ((secret.size + s.size : Nat) : Int)) (by omega)) <| nT ?_
  refine cT ?_
  refine sR ?_
  refine pC M 19 7 #[] (.bool true) (fun w M => c_alive w M.laid) fun u1 M => ?_
  refine pV 4 (.bool true) <| nT ?_
  refine wp_ret ?_
  refine au_then_ret ?_
  exact bodyPost_ret (v := .bool true) (results_tmp1 Tryz.results3 _ _ _ (by kernel_rfl)) (by kernel_rfl) ⟨rfl, below_grown M.old⟩
 ·skip
  refine rg_lit ?_
  refine pV 13 (.string secret) <| pV 14 (.int .i64 (secret.size : Int)) <| pV 15 (.string s) <| pV 16 (.int .i64 (s.size : Int)) ?_
  refine pH 17 (.int .i64 ((secret.size + s.size : Nat) : Int)) (iV ((secret.size : Int) + (s.size : Int)) (by omega) (by omega) (by omega)) <| pH 18 (.bool false) (dF ((2048 : Int) < ((secret.size + s.size : Nat) : Int)) (by omega)) <| nT ?_
  refine cF ?_
  refine wp_skip ?_
  refine au_then ?_
  refine wp_seq ?_
  by_cases h : secret.size = 32
  ·skip
   refine rg_lit ?_
   refine pV 21 (.string secret) ?_
   refine pC M 22 8 #[.string secret] (.tuple #[.string (pb (an secret)), .int .i64 0]) (fun w M => (by have e := c_Public secret w M.laid; rw [if_pos h] at e; exact e)) fun u2 M => ?_
   refine pV 20 (.tuple #[.string (pb (an secret)), .int .i64 0]) <| pV 23 (.string (pb (an secret))) <| pV 24 (.int .i64 0) <| pV 5 (.string (pb (an secret))) ?_
   refine pV 6 (.int .i64 0) <| nT <| sR <| pV 26 (.string secret) ?_
   refine pC M 27 9 #[.string secret] (.tuple #[.string (pb (an secret)), .int .i64 0]) (fun w M => (by have e := c_rPublic secret w M.laid; rw [if_pos h] at e; exact e)) fun u3 M => ?_
   refine pV 25 (.tuple #[.string (pb (an secret)), .int .i64 0]) <| pV 28 (.string (pb (an secret))) <| pV 29 (.int .i64 0) <| pV 7 (.string (pb (an secret))) ?_
   refine pV 8 (.int .i64 0) <| nT <| sR <| pV 31 (.string secret) ?_
   refine pV 32 (.string s) ?_
   refine pC M 33 10 #[.string secret, .string s] (.tuple #[.string (sg secret s), .int .i64 0]) (fun w M => (by have e := c_Sign secret s w M.laid; rw [if_pos h] at e; exact e)) fun u4 M => ?_
   refine pV 30 (.tuple #[.string (sg secret s), .int .i64 0]) <| pV 34 (.string (sg secret s)) <| pV 35 (.int .i64 0) <| pV 9 (.string (sg secret s)) ?_
   refine pV 10 (.int .i64 0) <| nT <| sR <| pV 37 (.string secret) ?_
   refine pV 38 (.string s) ?_
   refine pC M 39 11 #[.string secret, .string s] (.tuple #[.string (sg secret s), .int .i64 0]) (fun w M => (by have e := c_rSign secret s (by omega) w M.laid; rw [if_pos h] at e; exact e)) fun u5 M => ?_
   refine pV 36 (.tuple #[.string (sg secret s), .int .i64 0]) <| pV 40 (.string (sg secret s)) <| pV 41 (.int .i64 0) <| pV 11 (.string (sg secret s)) ?_
   refine pV 12 (.int .i64 0) <| nT <| sR <| pV 42 (.string (pb (an secret))) ?_
   refine pV 43 (.string (pb (an secret))) <| pH 44 (.bool true) (fun w => Eq.trans (b := .ok (.value (.bool ((pb (an secret)).toList == (pb (an secret)).toList))) w) (by kernel_rfl) (by rw [beq_self_eq_true])) <| pV 45 (.bool true) ?_
   refine pl_val (want_on 3 true rfl 45 rfl (by kernel_rfl)) (some 46) rfl (.int .i64 0) (fun _ => by kernel_rfl) ?_
   refine pl_val (want_on 3 true rfl 45 rfl (by kernel_rfl)) (some 47) rfl (.int .i64 0) (fun _ => by kernel_rfl) ?_
   refine pl_val (want_on 3 true rfl 45 rfl (by kernel_rfl)) (some 48) rfl (.bool true) (fun _ => by kernel_rfl) ?_
   refine pV 49 (.bool true) <| pV 50 (.bool true) ?_
   refine pl_val (want_on 8 true rfl 50 rfl (by kernel_rfl)) (some 51) rfl (.string (sg secret s)) (fun _ => by kernel_rfl) ?_
   refine pl_val (want_on 8 true rfl 50 rfl (by kernel_rfl)) (some 52) rfl (.string (sg secret s)) (fun _ => by kernel_rfl) ?_
   refine pl_val (want_on 8 true rfl 50 rfl (by kernel_rfl)) (some 53) rfl (.bool true) (fun w => Eq.trans (b := .ok (.value (.bool ((sg secret s).toList == (sg secret s).toList))) w) (by kernel_rfl) (by rw [beq_self_eq_true])) ?_
   refine pV 54 (.bool true) <| pV 55 (.bool true) ?_
   refine pl_val (want_on 13 true rfl 55 rfl (by kernel_rfl)) (some 56) rfl (.int .i64 0) (fun _ => by kernel_rfl) ?_
   refine pl_val (want_on 13 true rfl 55 rfl (by kernel_rfl)) (some 57) rfl (.int .i64 0) (fun _ => by kernel_rfl) ?_
   refine pl_val (want_on 13 true rfl 55 rfl (by kernel_rfl)) (some 58) rfl (.bool true) (fun _ => by kernel_rfl) ?_
   refine pV 59 (.bool true) <| pV 60 (.bool true) ?_
   refine pl_call M (want_on 18 true rfl 60 rfl (by kernel_rfl)) (some 61) rfl 7 #[] (.bool true) (fun _ => by kernel_rfl) (fun w M => c_alive w M.laid) fun u6 M => ?_
   refine pV 62 (.bool true) <| pV 4 (.bool true) <| nT ?_
   refine wp_ret ?_
   exact bodyPost_ret (v := .bool true) (results_tmp1 Tryz.results3 _ _ _ (by kernel_rfl)) (by kernel_rfl) ⟨rfl, below_grown M.old⟩
  ·skip
   refine rg_lit ?_
   refine pV 21 (.string secret) ?_
   refine pC M 22 8 #[.string secret] (.tuple #[.string ⟨#[]⟩, .int .i64 2]) (fun w M => (by have e := c_Public secret w M.laid; rw [if_neg h] at e; exact e)) fun u7 M => ?_
   refine pV 20 (.tuple #[.string ⟨#[]⟩, .int .i64 2]) <| pV 23 (.string ⟨#[]⟩) <| pV 24 (.int .i64 2) <| pV 5 (.string ⟨#[]⟩) ?_
   refine pV 6 (.int .i64 2) <| nT <| sR <| pV 26 (.string secret) ?_
   refine pC M 27 9 #[.string secret] (.tuple #[.string ⟨#[]⟩, .int .i64 2]) (fun w M => (by have e := c_rPublic secret w M.laid; rw [if_neg h] at e; exact e)) fun u8 M => ?_
   refine pV 25 (.tuple #[.string ⟨#[]⟩, .int .i64 2]) <| pV 28 (.string ⟨#[]⟩) <| pV 29 (.int .i64 2) <| pV 7 (.string ⟨#[]⟩) ?_
   refine pV 8 (.int .i64 2) <| nT <| sR <| pV 31 (.string secret) ?_
   refine pV 32 (.string s) ?_
   refine pC M 33 10 #[.string secret, .string s] (.tuple #[.string ⟨#[]⟩, .int .i64 2]) (fun w M => (by have e := c_Sign secret s w M.laid; rw [if_neg h] at e; exact e)) fun u9 M => ?_
   refine pV 30 (.tuple #[.string ⟨#[]⟩, .int .i64 2]) <| pV 34 (.string ⟨#[]⟩) <| pV 35 (.int .i64 2) <| pV 9 (.string ⟨#[]⟩) ?_
   refine pV 10 (.int .i64 2) <| nT <| sR <| pV 37 (.string secret) ?_
   refine pV 38 (.string s) ?_
   refine pC M 39 11 #[.string secret, .string s] (.tuple #[.string ⟨#[]⟩, .int .i64 2]) (fun w M => (by have e := c_rSign secret s (by omega) w M.laid; rw [if_neg h] at e; exact e)) fun u10 M => ?_
   refine pV 36 (.tuple #[.string ⟨#[]⟩, .int .i64 2]) <| pV 40 (.string ⟨#[]⟩) <| pV 41 (.int .i64 2) <| pV 11 (.string ⟨#[]⟩) ?_
   refine pV 12 (.int .i64 2) <| nT <| sR <| pV 42 (.string ⟨#[]⟩) ?_
   refine pV 43 (.string ⟨#[]⟩) <| pH 44 (.bool true) (fun w => by kernel_rfl) <| pV 45 (.bool true) ?_
   refine pl_val (want_on 3 true rfl 45 rfl (by kernel_rfl)) (some 46) rfl (.int .i64 2) (fun _ => by kernel_rfl) ?_
   refine pl_val (want_on 3 true rfl 45 rfl (by kernel_rfl)) (some 47) rfl (.int .i64 2) (fun _ => by kernel_rfl) ?_
   refine pl_val (want_on 3 true rfl 45 rfl (by kernel_rfl)) (some 48) rfl (.bool true) (fun _ => by kernel_rfl) ?_
   refine pV 49 (.bool true) <| pV 50 (.bool true) ?_
   refine pl_val (want_on 8 true rfl 50 rfl (by kernel_rfl)) (some 51) rfl (.string ⟨#[]⟩) (fun _ => by kernel_rfl) ?_
   refine pl_val (want_on 8 true rfl 50 rfl (by kernel_rfl)) (some 52) rfl (.string ⟨#[]⟩) (fun _ => by kernel_rfl) ?_
   refine pl_val (want_on 8 true rfl 50 rfl (by kernel_rfl)) (some 53) rfl (.bool true) (fun w => by kernel_rfl) ?_
   refine pV 54 (.bool true) <| pV 55 (.bool true) ?_
   refine pl_val (want_on 13 true rfl 55 rfl (by kernel_rfl)) (some 56) rfl (.int .i64 2) (fun _ => by kernel_rfl) ?_
   refine pl_val (want_on 13 true rfl 55 rfl (by kernel_rfl)) (some 57) rfl (.int .i64 2) (fun _ => by kernel_rfl) ?_
   refine pl_val (want_on 13 true rfl 55 rfl (by kernel_rfl)) (some 58) rfl (.bool true) (fun _ => by kernel_rfl) ?_
   refine pV 59 (.bool true) <| pV 60 (.bool true) ?_
   refine pl_call M (want_on 18 true rfl 60 rfl (by kernel_rfl)) (some 61) rfl 7 #[] (.bool true) (fun _ => by kernel_rfl) (fun w M => c_alive w M.laid) fun u11 M => ?_
   refine pV 62 (.bool true) <| pV 4 (.bool true) <| nT ?_
   refine wp_ret ?_
   exact bodyPost_ret (v := .bool true) (results_tmp1 Tryz.results3 _ _ _ (by kernel_rfl)) (by kernel_rfl) ⟨rfl, below_grown M.old⟩
end Go.Proofs.YtmhfmhmpoobmlaaGreatDoor.Sha
