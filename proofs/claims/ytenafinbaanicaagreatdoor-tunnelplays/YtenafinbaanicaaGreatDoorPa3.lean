/- Parts of the proof of TunnelPlays: P6, P3, P4, P7, P8, P9, P10, P11, A3, A4, A5, A6, A7, W0, W1. -/
import Derived.Test.YtenafinbaanicaaGreatDoorPa2
import Derived.RangeFuncLeaves
import Derived.RangeFuncRecord
import Derived.OrdersIn
import Derived.TacticsIn
import Derived.LoopNIn
import Derived.Shelf.Abstract
import Derived.Lib.SliceRun
namespace Go.Proofs.YtenafinbaanicaaGreatDoor.Pol
open Go.RowKit

def rk (key : ByteArray) : Nat → (Nat → Int)
  | 0 => fun _ => 0
  | j + 1 => upd (rk key j) j (cv .u64 (bt key j))
def dm1 (p : Nat → Int) : Nat → Int := upd (upd (upd (upd p 3 (un (p 3) 15)) 7 (un (p 7) 15)) 11 (un (p 11) 15)) 15 (un (p 15) 15)
def dm2 (p : Nat → Int) : Nat → Int := upd (upd (upd p 4 (un (p 4) 252)) 8 (un (p 8) 252)) 12 (un (p 12) 252)
def drF (key : ByteArray) : Nat → Int := dm2 (dm1 (rk key 16))
def dpa (h : Nat → Int) (p : ByteArray) : Nat → (Nat → Int)
  | 0 => h
  | j + 1 => upd (dpa h p j) j (ua (dpa h p j j) (cv .u64 (bt p j)))
def dpp (h : Nat → Int) (p : ByteArray) : Nat → Int := upd (dpa h p p.size) p.size (ua (dpa h p p.size p.size) 1)
def dpc (s : ByteArray) (j : Nat) : ByteArray := s.extract (16 * j) (min (16 * j + 16) s.size)
def dnx (s : ByteArray) (r h : Nat → Int) (j : Nat) : Nat → Int := dtF (dcF (dpp h (dpc s j))) r
def dsm (s : ByteArray) (r : Nat → Int) : Nat → (Nat → Int)
  | 0 => fun _ => 0
  | j + 1 => dnx s r (dsm s r j) j
/-- The number at the end. -/
def dh (key s : ByteArray) : Nat → Int := dwF (dsm s (drF key) ((s.size + 15) / 16))
def dsg (key : ByteArray) (h : Nat → Int) : Nat → Int := fun i => ua (h i) (cv .u64 (bt key (16 + i)))
def dby (g : Nat → Int) (i : Nat) : Int := cv .u8 (ua (g i) (cy 8 g i))
def dbs (g : Nat → Int) : Nat → (Nat → Int)
  | 0 => fun _ => 0
  | j + 1 => upd (dbs g j) j (dby g j)
theorem dbs_at (g : Nat → Int) : ∀ n, ∀ i, i < n → dbs g n i = dby g i
  | 0, i, h => absurd h (by omega)
  | n + 1, i, h => by
    unfold dbs upd
    by_cases e : i = n
    · rw [if_pos e, e]
    · rw [if_neg e, dbs_at g n i (by omega)]
theorem dbs_map (g : Nat → Int) : (List.range 16).map (dbs g 16) = (List.range 16).map (dby g) := List.map_congr_left fun i hi => dbs_at g 16 i (List.mem_range.1 hi)
theorem dby_nn (g : Nat → Int) : ∀ y ∈ (List.range 16).map (dby g), 0 ≤ y ∧ y < 256 := fun y hy => by
  obtain ⟨i, _, rfl⟩ := List.mem_map.1 hy
  exact cv8_nn _
/-- The document's tag. -/
def dtS (key s : ByteArray) : ByteArray := bs ((List.range 16).map (dby (dsg key (dh key s))))
theorem dpc_size (s : ByteArray) (j : Nat) : (dpc s j).size = min (16 * j + 16) s.size - 16 * j := by
  unfold dpc
  rw [ByteArray.size_extract]
  omega

set_option maxRecDepth 100000 in
set_option maxHeartbeats 4000000 in
theorem d_TagA (key s : ByteArray) (hk : key.size = 32) (hz : s.size ≤ 200000) (w : World) (hL : Laid w)  :
    Calls Tryz.prog 88 #[.string key, .string s] w fun r w' => r = .returned (.tuple #[.string (dtS key s), .int .i64 0]) ∧ Below w.heap.size w w' := by
  go_enter Tryz.func88, Tryz.ntmps88
  have M := Mem.start hL
  refine sq ?_
  refine wp_seq ?_
  refine sR ?_
  refine rV 2 ?_
  refine ZD 20 ((key.size : Int) = 32) ?_
  refine nT ?_
  refine wp_cond_false (by kernel_rfl) ?_
  refine wp_skip ?_
  refine au_then ?_
  refine sR ?_
  refine pN M 6 (.cells (av 18 (w64 (fun _ => 0))) 160) fun g1 u1 M => ?_
  refine nT ?_
  refine wp_seq ?_
  refine sq ?_
  refine wp_block ?_
  refine au_loop (fun j a w' => ∃ v1 : Nat → Value, a = (fm ([.string key, .string s] ++ vr v1 2 2 ++ [.string ⟨#[]⟩, .int .i64 0, .pointer (some ⟨g1, 0, none⟩), .int .i64 (j : Int)] ++ vr v1 8 110)) ∧ Mem ⟨w, []⟩ [⟨g1, .cells (av 18 (w64 (rk key j))) 160⟩] w') 16 (exS M) ?_ ?_
  · intro j a u0 hj hI
    obtain ⟨v1, rfl, M⟩ := hI
    refine wp_seq ?_
    refine sR ?_
    refine rV 1 ?_
    refine ZT 22 ((j : Int) < 16) ?_
    refine nT ?_
    refine wp_cond_true (by kernel_rfl) ?_
    refine wp_skip ?_
    refine au_then ?_
    refine wp_seq ?_
    refine wp_block ?_
    refine rg_lit ?_
    refine rV 3 ?_
    refine pH 28 (.int .u8 (bt key j)) (run_ixS 9 Tryz.underlying9 _ _ rfl key (by kernel_rfl) .i64 j (by kernel_rfl) (by omega)) ?_
    refine rV 1 ?_
    refine ZX 30 .i64 g1 (j) 18 ?_
    refine ZP64 M 0 j (cv .u64 (bt key j)) fun u2 M => ?_
    refine pl_nil ?_
    refine au_block ?_
    refine au_then ?_
    refine rg_lit ?_
    refine rV 1 ?_
    refine ZI 24 ((j : Int) + 1) ((j + 1 : Nat) : Int) ?_
    refine rV 1 ?_
    refine nT ?_
    exact exS M
  · intro a u0 hI
    obtain ⟨v1, rfl, M⟩ := hI
    refine wp_seq ?_
    refine sR ?_
    refine rV 1 ?_
    refine ZF 22 (16 < 16) ?_
    refine nT ?_
    refine wp_cond_false (by kernel_rfl) ?_
    refine wp_exit ?_
    refine au_then_exit ?_
    refine au_then_exit ?_
    refine au_block_exit ?_
    refine au_then ?_
    refine wp_seq ?_
    refine sq ?_
    refine wp_block ?_
    refine wp_loop_rounds 5 ?_
    refine rounds_go ?_
    refine wp_seq ?_
    refine sq ?_
    refine wp_cond_true (by kernel_rfl) ?_
    refine wp_skip ?_
    refine au_then ?_
    refine wp_seq ?_
    refine wp_block ?_
    refine rg_lit ?_
    refine rV 3 ?_
    refine ZE M 38 0 3 ?_
    refine rV 2 ?_
    refine ZP64 M 0 3 (un ((rk key 16) 3) 15) fun u3 M => ?_
    refine pl_nil ?_
    refine au_block ?_
    refine au_then ?_
    refine rg_lit ?_
    refine rV 3 ?_
    refine nT ?_
    refine rounds_go ?_
    refine wp_seq ?_
    refine sq ?_
    refine wp_cond_true (by kernel_rfl) ?_
    refine wp_skip ?_
    refine au_then ?_
    refine wp_seq ?_
    refine wp_block ?_
    refine rg_lit ?_
    refine rV 3 ?_
    refine ZE M 38 0 7 ?_
    refine rV 2 ?_
    refine ZP64 M 0 7 (un ((rk key 16) 7) 15) fun u4 M => ?_
    refine pl_nil ?_
    refine au_block ?_
    refine au_then ?_
    refine rg_lit ?_
    refine rV 3 ?_
    refine nT ?_
    refine rounds_go ?_
    refine wp_seq ?_
    refine sq ?_
    refine wp_cond_true (by kernel_rfl) ?_
    refine wp_skip ?_
    refine au_then ?_
    refine wp_seq ?_
    refine wp_block ?_
    refine rg_lit ?_
    refine rV 3 ?_
    refine ZE M 38 0 11 ?_
    refine rV 2 ?_
    refine ZP64 M 0 11 (un ((rk key 16) 11) 15) fun u5 M => ?_
    refine pl_nil ?_
    refine au_block ?_
    refine au_then ?_
    refine rg_lit ?_
    refine rV 3 ?_
    refine nT ?_
    refine rounds_go ?_
    refine wp_seq ?_
    refine sq ?_
    refine wp_cond_true (by kernel_rfl) ?_
    refine wp_skip ?_
    refine au_then ?_
    refine wp_seq ?_
    refine wp_block ?_
    refine rg_lit ?_
    refine rV 3 ?_
    refine ZE M 38 0 15 ?_
    refine rV 2 ?_
    refine ZP64 M 0 15 (un ((rk key 16) 15) 15) fun u6 M => ?_
    refine pl_nil ?_
    refine au_block ?_
    refine au_then ?_
    refine rg_lit ?_
    refine rV 3 ?_
    refine nT ?_
    refine rounds_go ?_
    refine wp_seq ?_
    refine sq ?_
    refine wp_cond_false (by kernel_rfl) ?_
    refine wp_exit ?_
    refine au_then_exit ?_
    refine au_then_exit ?_
    refine au_block_exit ?_
    refine au_then ?_
    refine wp_seq ?_
    refine sR ?_
    refine rV 1 ?_
    refine nT ?_
    refine wp_block ?_
    refine wp_loop_rounds 4 ?_
    refine rounds_go ?_
    refine wp_seq ?_
    refine sq ?_
    refine wp_cond_true (by kernel_rfl) ?_
    refine wp_skip ?_
    refine au_then ?_
    refine wp_seq ?_
    refine wp_block ?_
    refine rg_lit ?_
    refine rV 3 ?_
    refine ZE M 48 0 4 ?_
    refine rV 2 ?_
    refine ZP64 M 0 4 (un ((dm1 (rk key 16)) 4) 252) fun u7 M => ?_
    refine pl_nil ?_
    refine au_block ?_
    refine au_then ?_
    refine rg_lit ?_
    refine rV 3 ?_
    refine nT ?_
    refine rounds_go ?_
    refine wp_seq ?_
    refine sq ?_
    refine wp_cond_true (by kernel_rfl) ?_
    refine wp_skip ?_
    refine au_then ?_
    refine wp_seq ?_
    refine wp_block ?_
    refine rg_lit ?_
    refine rV 3 ?_
    refine ZE M 48 0 8 ?_
    refine rV 2 ?_
    refine ZP64 M 0 8 (un ((dm1 (rk key 16)) 8) 252) fun u8 M => ?_
    refine pl_nil ?_
    refine au_block ?_
    refine au_then ?_
    refine rg_lit ?_
    refine rV 3 ?_
    refine nT ?_
    refine rounds_go ?_
    refine wp_seq ?_
    refine sq ?_
    refine wp_cond_true (by kernel_rfl) ?_
    refine wp_skip ?_
    refine au_then ?_
    refine wp_seq ?_
    refine wp_block ?_
    refine rg_lit ?_
    refine rV 3 ?_
    refine ZE M 48 0 12 ?_
    refine rV 2 ?_
    refine ZP64 M 0 12 (un ((dm1 (rk key 16)) 12) 252) fun u9 M => ?_
    refine pl_nil ?_
    refine au_block ?_
    refine au_then ?_
    refine rg_lit ?_
    refine rV 3 ?_
    refine nT ?_
    refine rounds_go ?_
    refine wp_seq ?_
    refine sq ?_
    refine wp_cond_false (by kernel_rfl) ?_
    refine wp_exit ?_
    refine au_then_exit ?_
    refine au_then_exit ?_
    refine au_block_exit ?_
    refine au_then ?_
    refine sR ?_
    refine pN M 10 (.cells (av 18 (w64 (fun _ => 0))) 160) fun g2 u10 M => ?_
    refine nT ?_
    refine wp_seq ?_
    refine sq ?_
    refine wp_block ?_
    refine au_loop (fun i a w' => ∃ v2 : Nat → Value, a = (fm ([.string key, .string s] ++ vr v2 2 2 ++ [.string ⟨#[]⟩, .int .i64 0, .pointer (some ⟨g1, 0, none⟩), .int .i64 (16 : Int), .int .i64 19, .int .i64 16, .pointer (some ⟨g2, 0, none⟩), .int .i64 ((16 * i : Nat) : Int)] ++ vr v2 12 106)) ∧ Mem ⟨w, []⟩ [⟨g1, .cells (av 18 (w64 (drF key))) 160⟩, ⟨g2, .cells (av 18 (w64 (dsm s (drF key) i))) 160⟩] w') ((s.size + 15) / 16) (exS M) ?_ ?_
    · intro i a u0 hi hI
      obtain ⟨v2, rfl, M⟩ := hI
      refine wp_seq ?_
      refine sR ?_
      refine rV 3 ?_
      refine ZT 54 (((16 * i : Nat) : Int) < ((s.size : Nat) : Int)) ?_
      refine nT ?_
      refine wp_cond_true (by kernel_rfl) ?_
      refine wp_skip ?_
      refine au_then ?_
      refine wp_seq ?_
      refine wp_block ?_
      refine sR ?_
      refine rV 3 ?_
      refine ZI 60 (((16 * i : Nat) : Int) + 16) ((16 * i + 16 : Nat) : Int) ?_
      refine rV 2 ?_
      refine zJ 63 (.int .i64 ((min (16 * i + 16) s.size : Nat) : Int)) (.int .i64 (if ((s.size : Nat) : Int) < ((16 * i + 16 : Nat) : Int) then ((s.size : Nat) : Int) else ((16 * i + 16 : Nat) : Int))) (by rw [min_if (16 * i + 16) s.size]) ?_
      refine pH 64 (.string (dpc s i)) (run_strlh 9 Tryz.underlying9 _ _ _ rfl s (by kernel_rfl) .i64 .i64 (16 * i) (min (16 * i + 16) s.size) (by kernel_rfl) (by kernel_rfl) (by omega) (by omega)) ?_
      refine rV 1 ?_
      refine nT ?_
      refine wp_seq ?_
      refine sq ?_
      refine wp_block ?_
      have hps := dpc_size s i
      obtain ⟨n, hn⟩ : ∃ n, n = (dpc s i).size := ⟨_, rfl⟩
      refine au_loop (fun j a w' => ∃ v3 : Nat → Value, a = (fm ([.string key, .string s] ++ vr v3 2 2 ++ [.string ⟨#[]⟩, .int .i64 0, .pointer (some ⟨g1, 0, none⟩), .int .i64 (16 : Int), .int .i64 19, .int .i64 16, .pointer (some ⟨g2, 0, none⟩), .int .i64 ((16 * i : Nat) : Int), .string (dpc s i), .int .i64 (j : Int)] ++ vr v3 14 104)) ∧ Mem ⟨w, []⟩ [⟨g1, .cells (av 18 (w64 (drF key))) 160⟩, ⟨g2, .cells (av 18 (w64 (dpa (dsm s (drF key) i) (dpc s i) j))) 160⟩] w') (dpc s i).size (exS M) ?_ ?_
      · intro j a u0 hj hI
        obtain ⟨v3, rfl, M⟩ := hI
        refine wp_seq ?_
        refine sR ?_
        refine rV 3 ?_
        refine ZT 68 ((j : Int) < ((dpc s i).size : Int)) ?_
        refine nT ?_
        refine wp_cond_true (by kernel_rfl) ?_
        refine wp_skip ?_
        refine au_then ?_
        refine wp_seq ?_
        refine wp_block ?_
        refine rg_tail M 10 (by kernel_rfl) (by kernel_rfl) ?_
        simp only [List.take_succ_cons, List.take_zero]
        refine kR 2 ?_
        refine eX 73 .i64 g2 (j) 18 ?_
        refine eE M 74 1 j ?_
        refine kR 2 ?_
        refine kH 77 (.int .u8 (bt (dpc s i) j)) (run_ixS 9 Tryz.underlying9 _ _ rfl (dpc s i) (by kernel_rfl) .i64 j (by kernel_rfl) (hj)) ?_
        refine kR 2 ?_
        refine eX 80 .i64 g2 (j) 18 ?_
        refine kl_nil fun u11 M => ?_
        refine ZP64 M 1 j (ua ((dpa (dsm s (drF key) i) (dpc s i) j) j) (cv .u64 (bt (dpc s i) j))) fun u12 M => ?_
        refine pl_nil ?_
        refine au_block ?_
        refine au_then ?_
        refine rg_lit ?_
        refine rV 1 ?_
        refine ZI 70 ((j : Int) + 1) ((j + 1 : Nat) : Int) ?_
        refine rV 1 ?_
        refine nT ?_
        exact exS M
      · intro a u0 hI
        obtain ⟨v3, rfl, M⟩ := hI
        refine wp_seq ?_
        refine sR ?_
        refine rV 3 ?_
        refine ZF 68 (((dpc s i).size : Int) < ((dpc s i).size : Int)) ?_
        refine nT ?_
        refine wp_cond_false (by kernel_rfl) ?_
        refine wp_exit ?_
        refine au_then_exit ?_
        refine au_then_exit ?_
        refine au_block_exit ?_
        refine au_then ?_
        refine sR ?_
        refine rV 2 ?_
        refine pH 83 (.pointer (some ⟨g2, (dpc s i).size, none⟩)) (run_ix1 160 18 24 Tryz.underlying160 inz24 _ _ rfl g2 (by kernel_rfl) .i64 (dpc s i).size (by kernel_rfl) (by omega)) ?_
        refine pl_cell M (want_no rfl) (some 84) rfl 24 _ rfl g2 (dpc s i).size (by kernel_rfl) (.int .u64 ((dpa (dsm s (drF key) i) (dpc s i) (dpc s i).size) (dpc s i).size)) (fun _ => by kernel_rfl) (fun w M => M.cell 1 rfl (by omega) rfl) ?_
        refine rV 1 ?_
        refine pH 86 (.pointer (some ⟨g2, (dpc s i).size, none⟩)) (run_ix1 160 18 24 Tryz.underlying160 inz24 _ _ rfl g2 (by kernel_rfl) .i64 (dpc s i).size (by kernel_rfl) (by omega)) ?_
        refine pl_put1 M (want_no rfl) rfl 24 _ _ rfl 1 g2 (dpc s i).size (by kernel_rfl) 18 160 (w64 (dpa (dsm s (drF key) i) (dpc s i) (dpc s i).size)) rfl (.int .u64 (ua ((dpa (dsm s (drF key) i) (dpc s i) (dpc s i).size) (dpc s i).size) 1)) (w64 (upd (dpa (dsm s (drF key) i) (dpc s i) (dpc s i).size) (dpc s i).size (ua ((dpa (dsm s (drF key) i) (dpc s i) (dpc s i).size) (dpc s i).size) 1))) (by kernel_rfl) inz24 (by omega) rfl rfl (fun j _ => put_w64 _ _ _ j) fun u13 M => ?_
        refine nT ?_
        refine rg_tail M 4 (by kernel_rfl) (by kernel_rfl) ?_
        simp only [List.take_succ_cons, List.take_zero]
        refine kA M 87 1 18 (w64 (dpp (dsm s (drF key) i) (dpc s i))) ?_
        refine kC M 88 102 #[.agg (av 18 (w64 (dpp (dsm s (drF key) i) (dpc s i))))] (.agg (av 18 (w64 (dcF (dpp (dsm s (drF key) i) (dpc s i)))))) (fun w M => d_carry _ w M.laid) ?_
        refine kA M 89 0 18 (w64 (drF key)) ?_
        refine kC M 90 101 #[.agg (av 18 (w64 (dcF (dpp (dsm s (drF key) i) (dpc s i))))), .agg (av 18 (w64 (drF key)))] (.agg (av 18 (w64 (dnx s (drF key) (dsm s (drF key) i) i)))) (fun w M => d_times _ _ w M.laid) ?_
        refine kl_nil fun u14 M => ?_
        refine ZG M 1 18 (w64 (dnx s (drF key) (dsm s (drF key) i) i)) fun u15 M => ?_
        refine pl_nil ?_
        refine au_block ?_
        refine au_then ?_
        refine rg_lit ?_
        refine rV 1 ?_
        refine ZI 56 (((16 * i : Nat) : Int) + 16) ((16 * (i + 1) : Nat) : Int) ?_
        refine rV 1 ?_
        refine nT ?_
        exact exS M
    · intro a u0 hI
      obtain ⟨v2, rfl, M⟩ := hI
      refine wp_seq ?_
      refine sR ?_
      refine rV 3 ?_
      refine ZF 54 (((16 * ((s.size + 15) / 16) : Nat) : Int) < ((s.size : Nat) : Int)) ?_
      refine nT ?_
      refine wp_cond_false (by kernel_rfl) ?_
      refine wp_exit ?_
      refine au_then_exit ?_
      refine au_then_exit ?_
      refine au_block_exit ?_
      refine au_then ?_
      refine sR ?_
      refine pA M 91 1 18 (w64 (dsm s (drF key) ((s.size + 15) / 16))) ?_
      refine pC M 92 103 #[.agg (av 18 (w64 (dsm s (drF key) ((s.size + 15) / 16))))] (.agg (av 18 (w64 (dh key s)))) (fun w M => d_whole _ w M.laid) fun u16 M => ?_
      refine ZG M 1 18 (w64 (dh key s)) fun u17 M => ?_
      refine nT ?_
      refine sq ?_
      refine sR ?_
      refine ZM M 93 (fun g3 => .slice (some ⟨g3, 0, none⟩) 16 16) (.cells (av 16 (w8 (dbs (dsg key (dh key s)) 0))) 5) fun g3 u18 M => ?_
      refine rV 1 ?_
      refine nT ?_
      refine wp_seq ?_
      refine sq ?_
      refine wp_block ?_
      refine au_loop (fun j a w' => ∃ v4 : Nat → Value, a = (fm ([.string key, .string s] ++ vr v4 2 2 ++ [.string ⟨#[]⟩, .int .i64 0, .pointer (some ⟨g1, 0, none⟩), .int .i64 (16 : Int), .int .i64 19, .int .i64 16, .pointer (some ⟨g2, 0, none⟩), .int .i64 ((16 * ((s.size + 15) / 16) : Nat) : Int)] ++ vr v4 12 2 ++ [.int .u64 (cy 8 (dsg key (dh key s)) j), .slice (some ⟨g3, 0, none⟩) 16 16, .int .i64 (j : Int)] ++ vr v4 17 101)) ∧ Mem ⟨w, []⟩ [⟨g1, .cells (av 18 (w64 (drF key))) 160⟩, ⟨g2, .cells (av 18 (w64 (dh key s))) 160⟩, ⟨g3, .cells (av 16 (w8 (dbs (dsg key (dh key s)) j))) 5⟩] w') 16 (exS M) ?_ ?_
      · intro j a u0 hj hI
        obtain ⟨v4, rfl, M⟩ := hI
        refine wp_seq ?_
        refine sR ?_
        refine rV 1 ?_
        refine ZT 95 ((j : Int) < 16) ?_
        refine nT ?_
        refine wp_cond_true (by kernel_rfl) ?_
        refine wp_skip ?_
        refine au_then ?_
        refine wp_seq ?_
        refine wp_block ?_
        refine wp_seq ?_
        refine rg_tail M 11 (by kernel_rfl) (by kernel_rfl) ?_
        simp only [List.take_succ_cons, List.take_zero]
        refine kR 1 ?_
        refine eX 99 .i64 g2 (j) 18 ?_
        refine eE M 100 1 j ?_
        refine kR 2 ?_
        refine eI 103 (16 + (j : Int)) ((16 + j : Nat) : Int) ?_
        refine kH 104 (.int .u8 (bt key (16 + j))) (run_ixS 9 Tryz.underlying9 _ _ rfl key (by kernel_rfl) .i64 (16 + j) (by kernel_rfl) (by omega)) ?_
        refine kR 4 ?_
        refine kl_nil fun u19 M => ?_
        refine rV 1 ?_
        refine nT ?_
        refine sR ?_
        refine rV 4 ?_
        refine pH 113 (.pointer (some ⟨g3, j, none⟩)) (run_ix0 97 5 Tryz.underlying97 inz5 _ _ rfl g3 16 16 (by kernel_rfl) .i64 j (by kernel_rfl) hj) ?_
        refine ZP8 M 2 j (cv .u8 (ua (ua ((dh key s) j) (cv .u64 (bt key (16 + j)))) (cy 8 (dsg key (dh key s)) j))) fun u20 M => ?_
        refine nT ?_
        refine rg_lit ?_
        refine rV 3 ?_
        refine pl_nil ?_
        refine au_block ?_
        refine au_then ?_
        refine rg_lit ?_
        refine rV 1 ?_
        refine ZI 97 ((j : Int) + 1) ((j + 1 : Nat) : Int) ?_
        refine rV 1 ?_
        refine nT ?_
        exact exS M
      · intro a u0 hI
        obtain ⟨v4, rfl, M⟩ := hI
        refine wp_seq ?_
        refine sR ?_
        refine rV 1 ?_
        refine ZF 95 (16 < 16) ?_
        refine nT ?_
        refine wp_cond_false (by kernel_rfl) ?_
        refine wp_exit ?_
        refine au_then_exit ?_
        refine au_then_exit ?_
        refine au_block_exit ?_
        refine au_then ?_
        refine sR ?_
        refine rV 1 ?_
        refine pl_back M (want_no rfl) (some 117) rfl _ rfl 2 g3 16 16 (by kernel_rfl) _ rfl ((List.range 16).map (dbs (dsg key (dh key s)) 16)) 16 (sb_av 16 _ _) (by simp) (by rw [dbs_map]; exact dby_nn _) ?_
        rw [dbs_map]
        refine rV 2 ?_
        refine nT ?_
        refine wp_ret ?_
        exact b1 M

set_option maxRecDepth 100000 in
set_option maxHeartbeats 4000000 in
theorem d_TagB (key s : ByteArray) (hk : key.size ≠ 32) (w : World) (hL : Laid w)  :
    Calls Tryz.prog 88 #[.string key, .string s] w fun r w' => r = .returned (.tuple #[.string ⟨#[]⟩, .int .i64 2]) ∧ Below w.heap.size w w' := by
  go_enter Tryz.func88, Tryz.ntmps88
  have M := Mem.start hL
  refine sq ?_
  refine wp_seq ?_
  refine sR ?_
  refine rV 2 ?_
  refine ZS 20 ((key.size : Int) = 32) ?_
  refine nT ?_
  refine wp_cond_true (by kernel_rfl) ?_
  refine sq ?_
  refine wp_ret ?_
  refine au_then_ret ?_
  exact b1 M


end Go.Proofs.YtenafinbaanicaaGreatDoor.Pol
namespace Go.Proofs.YtenafinbaanicaaGreatDoor.Pol
open Go.RowKit

/-- Every function, every depth; a frame of this kind. -/
def FW (ro : Option Nat) : Fence := { Fence.wide with round := ro }
theorem fw_calls {ro : Option Nat} {n : Nat} {P : Program} {f : FuncId} {args : Array Value} {w : World} {R : Ending → World → Prop} (h : Calls P f args w R) : CallsIn (FW ro) n P f args w R := (callsIn_wide (n := n)).2 h
theorem fw_rows {ro : Option Nat} {n : Nat} {P : Program} {row : String} {args : Array Value} {w : World} {R : Value → World → Prop} (h : Rows P row args w R) : RowsIn (FW ro) n P row args w R :=
  fun c cs _ => let ⟨v, w', r, s⟩ := h c cs; ⟨v, w', r, stepsIn_wide.2 s⟩
section
variable {P : Program} {ops : Array Oper} {rest : List Oper} {o : Oper} {a : Act} {w : World} {Q : Exit → Act → World → Prop} {K : Act → World → Prop} {n : Nat} {ro : Option Nat}
theorem op_in (hd : ∀ c, o.op ≠ .defer c) (h : o.wp P a w K Q) : o.wpIn (FW ro) n P a w K Q := by
  refine ⟨fun _ _ => trivial, ?_⟩
  rw [Oper.semAt_eq _ _ _ hd]
  unfold Oper.wp at h
  generalize (execOp a.eval o).run P w = r at h
  cases r with
  | ok x w' =>
    cases x <;> simp only [Oper.upon] at h <;> simp only [Oper.uponIn]
    all_goals first
      | exact h
      | exact h.elim
      | exact ⟨fun e => by simp [FW, Fence.wide] at e, fw_calls h⟩
      | exact ⟨fun e => by simp [FW, Fence.wide] at e, fw_rows h⟩
  | halt x w' => cases x <;> simp only [Oper.upon] at h <;> simp only [Oper.uponIn] <;> exact h
def ndB (o : Oper) : Bool := match o.op with
  | .defer _ => false
  | _ => true
theorem nd_of (h : ndB o = true) : ∀ c, o.op ≠ .defer c := fun c e => by simp [ndB, e] at h
theorem list_in : ∀ (l : List Oper) (a : Act) (w : World), l.all ndB = true → (∀ a w, ¬ Q .outgrown a w) → wpList P ops Q l a w → wpListIn (FW ro) n P ops Q l a w
  | [], _, _, _, _, h => h
  | o :: l, a, w, hd, hQ, h => by
    simp only [List.all_cons, Bool.and_eq_true] at hd
    unfold wpList at h
    unfold wpListIn
    split
    · rename_i hw
      rw [if_pos hw] at h
      rcases h with h | ⟨_, a', w', h⟩
      · exact Oper.wpIn_mono (fun a w h => list_in l a w hd.2 hQ h) (op_in (nd_of hd.1) h)
      · exact absurd h (hQ a' w')
    · rename_i hw
      rw [if_neg hw] at h
      exact ⟨fun _ _ => trivial, list_in l _ _ hd.2 hQ h⟩
theorem list_in_then : ∀ (l : List Oper) (a : Act) (w : World), l.all ndB = true → (∀ a w, ¬ Q .outgrown a w) → wpList P ops (Exit.then (wpListIn (FW ro) n P ops Q rest) Q) l a w → wpListIn (FW ro) n P ops Q (l ++ rest) a w
  | [], _, _, _, _, h => h
  | o :: l, a, w, hd, hQ, h => by
    simp only [List.all_cons, Bool.and_eq_true] at hd
    unfold wpList at h
    rw [List.cons_append]
    unfold wpListIn
    split
    · rename_i hw
      rw [if_pos hw] at h
      rcases h with h | ⟨_, a', w', h⟩
      · exact Oper.wpIn_mono (fun a w h => list_in_then l a w hd.2 hQ h) (op_in (nd_of hd.1) (wp_unthen h))
      · exact absurd h (hQ a' w')
    · rename_i hw
      rw [if_neg hw] at h
      exact ⟨fun _ _ => trivial, list_in_then l _ _ hd.2 hQ h⟩
theorem any_in (hd : ∀ (i : Nat) (o : Oper), ops[i]? = some o → ndB o = true) (hQ : ∀ a w, ¬ Q .outgrown a w) {md : Region.Mode} : ∀ (fuel : Nat) (listed : Array Bool) (a : Act) (w : World), wpAny P md ops Q fuel listed a w → wpAnyIn (FW ro) n P md ops Q fuel listed a w
  | 0, _, _, _, h => h
  | fuel + 1, listed, a, w, h => ⟨h.1, fun i hi => by
    have h1 := h.2 i hi
    unfold wpOp at h1
    unfold wpOpIn
    cases ho : ops[i]? with
    | none =>
      simp only [ho] at h1 ⊢
      exact any_in hd hQ fuel _ _ _ h1
    | some o =>
      simp only [ho] at h1 ⊢
      split
      · rename_i hw
        rw [if_pos hw] at h1
        rcases h1 with h1 | ⟨_, a', w', h1⟩
        · exact Oper.wpIn_mono (fun a w h => any_in hd hQ fuel _ a w h) (op_in (nd_of (hd i o ho)) h1)
        · exact absurd h1 (hQ a' w')
      · rename_i hw
        rw [if_neg hw] at h1
        exact ⟨fun _ _ => trivial, any_in hd hQ fuel _ _ _ h1⟩⟩
/-- A round's code: regions. -/
theorem rr_lit {id : Nat} {l : List Oper} (hd : l.all ndB = true) (hQ : ∀ a w, ¬ Q .outgrown a w) (h : PL P l.toArray Q l a w) : (Code.region id l.toArray false).wpIn (FW ro) n P Q a w := wpIn_region_lit (list_in l a w hd hQ h.out)
theorem rr_held {c : Ctx} {L : List Blk} {id : Nat} {l : List Oper} (hd : l.all ndB = true) (hO : ∀ a w, ¬ Q .outgrown a w) (M : Mem c L w) (Ls : List Blk) (m : Nat) (hn : l.length = m + 1) (hm : P.follows .mixedOrders = true) (hB : (Region.sinkB .any l.toArray m && Region.chainB .any l.toArray m && Region.noSelect l.toArray) = true) (hQ : ∀ c a d v w, Q (.panic c) (Act.put a d v) w → Q (.panic c) a w)
    (h : ∀ w', Mem c L w' → HL P l.toArray Q (Mem c Ls) m (m + 1) (Array.replicate (m + 1) false) a w') : (Code.region id l.toArray true).wpIn (FW ro) n P Q a w := by
  simp only [Bool.and_eq_true] at hB
  have hsz : l.toArray.size = m + 1 := by simpa using hn
  have inv : HeadInv .any l.toArray m (Array.replicate (m + 1) false) :=
    ⟨by simpa using hn.symm, fun j oj _ hl => (by rw [getD_replicate_false] at hl; cases hl), fun t _ ht => getD_in (by simp; omega) (getD_replicate_false _ _)⟩
  have h2 := (h w.drew M.drew).out hQ ⟨hB.1.1, hB.1.2, by omega, hB.2⟩ inv
  refine wpIn_region_any hm (any_in (fun i o ho => ?_) hO _ _ _ _ (wpAny_of_L (S := Mem c Ls) (n := m) _ _ _ _ ?_))
  · have h3 : l[i]? = some o := by simpa using ho
    exact List.all_eq_true.1 hd o (List.mem_of_getElem? h3)
  · rw [hsz]
    exact h2

/-- How a round may be left. -/
def rdPost (lp : Nat) (d : Option Tmp) (a : Act) (K : Act → World → Prop) : Exit → Act → World → Prop
  | .normal, _, u => ∃ r, u.heap[lp]? = some (.loop r) ∧ K (a.put d (.bool true)) (u.putObj lp (.loop { r with state := .ready, pending := none }))
  | _, _, _ => False
/-- The function that is ranged over calls the loop's body. -/
theorem pl_yield (lp : Nat) (r : Loop) (args : Array Value) (hl : w.heap[lp]? = some (.loop r)) (hs : args.size = r.params.size) (hst : r.state = .ready) (hd : ndB o = true) (hrun : ∀ w, (execOp a.eval o).run P w = (Instr.yield lp args).run P w) (hw : Region.wanted o (yielded ops a.tmps) = true)
    (h : r.assign.wpIn (FW (some lp)) 0 P (Exit.then (fun a1 w1 => w1.heap[lp]? = some (.loop r) ∧ r.body.wpIn (FW (some lp)) 0 P (rdPost lp o.dst a (wpListIn (FW none) 0 P ops Q rest)) a1 (w1.putObj lp (.loop { r with state := .busy }))) (fun _ _ _ => False)) { tmps := (r.params.zip args).foldl (fun t (p, v) => t.setIfInBounds p v) r.tmps, defers := [] } w) :
    wpListIn (FW none) 0 P ops Q (o :: rest) a w := by
  unfold wpListIn
  rw [if_pos hw]
  refine ⟨fun _ _ => trivial, ?_⟩
  rw [Oper.semAt_eq _ _ _ (nd_of hd), hrun, run_yield hl hs, Oper.uponIn_round]
  refine ⟨fun e => by simp [FW, Fence.wide] at e, ?_⟩
  refine roundIn_of_wpIn (F := FW none) trivial ?_
  refine wpIn_mono h ?_
  rintro e a1 w1 hq
  cases e with
  | normal =>
    obtain ⟨h1, h2⟩ := hq
    refine ⟨_, run_beginRound h1 hst, ?_⟩
    refine wpIn_mono h2 ?_
    rintro e a2 w2 hq
    cases e with
    | normal =>
      obtain ⟨r2, h3, h4⟩ := hq
      exact ⟨_, _, run_endRound none h3, h4⟩
    | ret => exact hq.elim
    | exit i => exact hq.elim
    | goto i => exact hq.elim
    | panic c => exact hq.elim
    | outgrown => exact hq.elim
  | ret => exact hq.elim
  | exit i => exact hq.elim
  | goto i => exact hq.elim
  | panic c => exact hq.elim
  | outgrown => exact hq.elim
theorem in_list {l : List Oper} (hd : l.all ndB = true) (hQ : ∀ a w, ¬ Q .outgrown a w) (h : PL P ops Q l a w) : wpListIn (FW none) 0 P ops Q l a w := list_in l a w hd hQ h.out
/-- The statement. -/
theorem wp_range {g : Operand} {ps : Array Tmp} {assign body : Code} {gf : FuncId} {lb : Array Value} (hg : a.eval g = .func (.func gf) #[] lb) (eg : ∀ args w, (callFunc gf args).run P w = .ok (.enter gf args) w)
    (h : ∀ fn, Calls P gf (#[.func (.yield (w.heap.size + 1)) #[] #[]] ++ lb) ((w.alloc (.deferred (some []))).alloc (.loop { state := .ready, pending := none, fn, tmps := a.tmps, params := ps, assign, body, defers := w.heap.size }))
      fun e w3 => (∃ v, e = .returned v) ∧ ∃ r, w3.heap[w.heap.size + 1]? = some (.loop r) ∧ r.state ≠ .busy ∧
        (match r.pending with
         | none => Q .normal { a with defers := { target := .collected w.heap.size, args := #[] } :: a.defers } (w3.putObj (w.heap.size + 1) (.loop { r with state := .exhausted }))
         | some c => c.wp P Q { a with defers := { target := .collected w.heap.size, args := #[] } :: a.defers } (w3.putObj (w.heap.size + 1) (.loop { r with state := .exhausted })))) :
    (Code.rangeFunc g ps assign body).wp P Q a w := by
  refine (wpIn_wide (n := 0)).1 ?_
  refine wpIn_rangeFunc ?_
  intro fn _
  refine ⟨w.heap.size + 1, [{ target := .collected w.heap.size, args := #[] }], ((w.alloc (.deferred (some []))).alloc (.loop { state := .ready, pending := none, fn, tmps := a.tmps, params := ps, assign, body, defers := w.heap.size })), { target := .fn (.func gf) lb, args := #[.func (.yield (w.heap.size + 1)) #[] #[]] }, ((w.alloc (.deferred (some []))).alloc (.loop { state := .ready, pending := none, fn, tmps := a.tmps, params := ps, assign, body, defers := w.heap.size })), gf, #[.func (.yield (w.heap.size + 1)) #[] #[]] ++ lb, ((w.alloc (.deferred (some []))).alloc (.loop { state := .ready, pending := none, fn, tmps := a.tmps, params := ps, assign, body, defers := w.heap.size })), run_enterLoop_outer _ _ _ _ _, ?_, fun _ _ => trivial, ?_, fun e => by simp [Fence.wide] at e, ?_⟩
  · simp only [resolve, hg]
    simp [go_sem]
  · simp [invoke, go_sem, eg]
  · refine (callsIn_wide (n := 0 - 1)).2 ((h fn).mono ?_)
    rintro e w3 ⟨⟨v, rfl⟩, r, h1, h2, h3⟩
    refine ⟨r.pending, _, run_endLoop h1 h2, ?_⟩
    cases hp : r.pending with
    | none =>
      rw [hp] at h3
      exact h3
    | some c =>
      rw [hp] at h3
      exact wpIn_wide.2 h3
/-- A function that holds such a statement leaves. -/
theorem marks_ret {fn : Func} {R : Ending → World → Prop} {D : Nat} {v : Value} (hdf : a.defers = [{ target := .collected D, args := #[] }]) (hD : w.heap[D]? = some (.deferred (some []))) (hr : ∀ w, (results fn a.tmps).run P w = .ok v w) (h : R (.returned v) (w.putObj D (.deferred none))) : bodyPostM Fence.wide 0 P fn R .ret a w := by
  show LeavesInM Fence.wide 0 P fn a.tmps R a.defers .returning w
  rw [hdf]
  refine ⟨by simp, .inl ⟨D, _, rfl, run_takeDeferred hD, ?_⟩⟩
  exact ⟨v, hr _, h⟩
end
/-- The loop over a function in a piece of code. -/
def findRange : Code → Option (Code × Code)
  | .seq a b => (findRange a).orElse fun _ => findRange b
  | .block _ c => findRange c
  | .rangeFunc _ _ s b => some (s, b)
  | _ => none
theorem code_is {O : Option (Code × Code)} {c0 d0 sg bd : Code} (hO : O = some (c0, d0)) (hc : O = some (sg, bd)) {F : Fence} {n : Nat} {P : Program} {Q : Exit → Act → World → Prop} {a : Act} {w : World} (h : d0.wpIn F n P Q a w) : bd.wpIn F n P Q a w := by
  rw [hO] at hc
  cases hc
  exact h
theorem code_is1 {O : Option (Code × Code)} {c0 d0 sg bd : Code} (hO : O = some (c0, d0)) (hc : O = some (sg, bd)) {F : Fence} {n : Nat} {P : Program} {Q : Exit → Act → World → Prop} {a : Act} {w : World} (h : c0.wpIn F n P Q a w) : sg.wpIn F n P Q a w := by
  rw [hO] at hc
  cases hc
  exact h
theorem fr_is {a b : Act} (h : a = b) {c : Code} {F : Fence} {n : Nat} {P : Program} {Q : Exit → Act → World → Prop} {w : World} (k : c.wpIn F n P Q b w) : c.wpIn F n P Q a w := by
  rw [h]
  exact k
theorem rg_yieldN {P : Program} {a : Act} {w : World} {Q : Exit → Act → World → Prop} {id : Nat} {l : List Oper} (m : Nat) (hd : (l.take m).all ndB = true) (hQ : ∀ a w, ¬ Q .outgrown a w) (h : PL P l.toArray (Exit.then (wpListIn (FW none) 0 P l.toArray Q (l.drop m)) Q) (l.take m) a w) : (Code.region id l.toArray false).wp P Q a w := by
  refine (wpIn_wide (n := 0)).1 ?_
  refine wpIn_region_lit (F := FW none) ?_
  have h2 := list_in_then (ro := none) (n := 0) (l.take m) a w hd hQ h.out
  rw [List.take_append_drop] at h2
  exact h2
theorem fr_w {a b : Act} (h : a = b) {c : Code} {P : Program} {Q : Exit → Act → World → Prop} {w : World} (k : c.wp P Q b w) : c.wp P Q a w := by
  rw [h]
  exact k
section
variable {P : Program} {ops : Array Oper} {rest : List Oper} {o : Oper} {a : Act} {w : World} {c : Ctx} {L : List Blk} {Q : Exit → Act → World → Prop}
/-- A call that makes two blocks. -/
theorem pl_calltwo (M : Mem c L w) (hw : Region.wanted o (yielded ops a.tmps) = true) (d : Option Tmp) (hd : o.dst = d) (f : FuncId) (args : Array Value) (v : Nat → Nat → Value) (Z Y : Obj) (hrun : ∀ w, (execOp a.eval o).run P w = .ok (.enter f args) w)
    (hc : ∀ w, Mem c L w → Calls P f args w fun e w' => ∃ g k, e = .returned (v g k) ∧ Mem ⟨w, []⟩ [⟨g, Z⟩, ⟨k, Y⟩] w') (h : ∀ g k w', Mem c (L ++ [⟨g, Z⟩, ⟨k, Y⟩]) w' → PL P ops Q rest (a.put d (v g k)) w') : PL P ops Q (o :: rest) a w :=
  pl_callq hw d hd f args hrun ((hc w M).mono fun _ w' ⟨g, k, he, M'⟩ => ⟨v g k, he, h g k w' (M.news (below_grown M'.old) M'.at_ (fun b hb => (M'.ge b hb).elim id fun h => by cases h) M'.nodup)⟩)
theorem _root_.Go.Proofs.YtenafinbaanicaaGreatDoor.Mem.putO (M : Mem c L w) (i g : Nat) (Z Z' : Obj) (hi : L[i]? = some ⟨g, Z⟩) : Mem c (L.set i ⟨g, Z'⟩) (w.putObj g Z') :=
  M.put i ⟨g, Z⟩ hi Z' ⟨rfl, rfl, rfl, by simp, fun j _ hj => World.putObj_heap_other (by simpa using hj)⟩ (World.putObj_heap_same (Array.getElem?_eq_some_iff.1 (M.get i hi)).1)
theorem _root_.Go.Proofs.YtenafinbaanicaaGreatDoor.Mem.alloc2 (M : Mem c L w) (Z1 Z2 : Obj) : Mem c (L ++ [⟨w.heap.size, Z1⟩, ⟨w.heap.size + 1, Z2⟩]) ((w.alloc Z1).alloc Z2) := by
  have M1 := M.new w.heap.size Z1 (new_below w Z1) (heap_alloc_new w Z1) (Nat.le_refl _)
  have e : (w.alloc Z1).heap.size = w.heap.size + 1 := World.size_alloc _ _
  have M2 := M1.new (w.heap.size + 1) Z2 (new_below (w.alloc Z1) Z2) (by rw [← e]; exact heap_alloc_new (w.alloc Z1) Z2) (by rw [e]; exact Nat.le_refl _)
  rw [List.append_assoc] at M2
  exact M2
end
/-- A piece of a text: its number. -/
def pc (s : ByteArray) (off n : Nat) : Nat → Int := noF (mk (fun i => bt s (off + i)) n)
def nx (s : ByteArray) (r h : Nat → Int) (j : Nat) : Nat → Int := tmF (plF h (pc s (16 * j) (min 16 (s.size - 16 * j)))) r
/-- The number behind some pieces. -/
def sm (s : ByteArray) (r : Nat → Int) : Nat → (Nat → Int)
  | 0 => fun _ => 0
  | j + 1 => nx s r (sm s r j) j

theorem piece_at (s : ByteArray) (off i : Nat) (h : off + i < s.size) : (vs8 (sb s))[off + i]? = some (w8 (fun i => bt s (off + i)) i) := by
  unfold vs8
  rw [List.getElem?_map, sb_get s _ h]
  rfl

set_option maxRecDepth 100000 in
set_option maxHeartbeats 4000000 in
/-- A round: one piece. -/
theorem r_body (sg bd : Code) (hb : Tryz.f95.body.bind findRange = some (sg, bd)) (s : ByteArray) (r h : Nat → Int) (j : Nat) (hj : 16 * j < s.size) (gr gl gh gq cap lp : Nat) (Zl Zq : Obj) (hZ : SB Zq cap (vs8 (sb s))) (L0 : List Blk) (v : Nat → Value) (c : Ctx) (u : World) (R : Exit → Act → World → Prop) (hO : ∀ a w, ¬ R .outgrown a w) (hP : ∀ c a w, ¬ R (.panic c) a w)
    (M : Mem c (⟨gr, .cells (av 5 (w64 r)) 178⟩ :: ⟨gl, Zl⟩ :: ⟨gh, .cells (av 5 (w64 h)) 178⟩ :: ⟨gq, Zq⟩ :: L0) u)
    (hgo : ∀ a u', Mem c (⟨gr, .cells (av 5 (w64 r)) 178⟩ :: ⟨gl, Zl⟩ :: ⟨gh, .cells (av 5 (w64 (nx s r h j))) 178⟩ :: ⟨gq, Zq⟩ :: L0) u' → R .normal a u') :
    bd.wpIn (FW (some lp)) 0 Tryz.prog R (fm (vr v 0 6 ++ [.pointer (some ⟨gr, 0, none⟩), v 7, .pointer (some ⟨gh, 0, none⟩), .slice (some ⟨gq, (16 * j), none⟩) (min 16 (s.size - 16 * j)) (min 16 (s.size - 16 * j))] ++ vr v 10 24)) u := by
  refine code_is (O := Tryz.f95.body.bind findRange) rfl hb ?_
  refine wpIn_block ?_
  refine rr_held (by kernel_rfl) (fun _ _ h => hO _ _ h) M (⟨gr, .cells (av 5 (w64 r)) 178⟩ :: ⟨gl, Zl⟩ :: ⟨gh, .cells (av 5 (w64 h)) 178⟩ :: ⟨gq, Zq⟩ :: L0) 6 rfl (by kernel_rfl) (by kernel_rfl) (fun _ _ _ _ _ h => (hP _ _ _ h).elim) fun u1 M => ?_
  refine hl_load M 0 rfl (by decide) (by kernel_rfl) (by kernel_rfl) (want_no rfl) (some 23) rfl 178 _ rfl 2 gh 0 (by kernel_rfl) 5 178 (w64 h) rfl 5 (w64 h) (fun j _ => by rw [Nat.zero_add]) (by decide) _ Tryz.underlying178 rfl inz178 ?_
  refine qV M 1 24 (.slice (some ⟨gq, (16 * j), none⟩) (min 16 (s.size - 16 * j)) (min 16 (s.size - 16 * j))) ?_
  refine hl_load M 4 rfl (by decide) (by kernel_rfl) (by kernel_rfl) (want_no rfl) (some 27) rfl 178 _ rfl 0 gr 0 (by kernel_rfl) 5 178 (w64 r) rfl 5 (w64 r) (fun j _ => by rw [Nat.zero_add]) (by decide) _ Tryz.underlying178 rfl inz178 ?_
  refine qO 2 ?_
  refine ZC M 25 (fun w M => c_marked (fun i => bt s (16 * j + i)) (min 16 (s.size - 16 * j)) (by omega) gq (16 * j) (min 16 (s.size - 16 * j)) w M.laid (fun i hi => hZ.cell (M.get 3 rfl) (piece_at s (16 * j) i (by omega)))) fun u2 M => ?_
  refine nT ?_
  refine ⟨M, ?_⟩
  refine qO 3 ?_
  refine pC M 26 113 #[.agg (av 5 (w64 h)), .agg (av 5 (w64 (pc s (16 * j) (min 16 (s.size - 16 * j)))))] (.agg (av 5 (w64 (plF h (pc s (16 * j) (min 16 (s.size - 16 * j))))))) (fun w M => c_plus h _ w M.laid) fun u3 M => ?_
  refine nT ?_
  refine ⟨M, ?_⟩
  refine qO 5 ?_
  refine pC M 28 115 #[.agg (av 5 (w64 (plF h (pc s (16 * j) (min 16 (s.size - 16 * j)))))), .agg (av 5 (w64 r))] (.agg (av 5 (w64 (nx s r h j)))) (fun w M => c_times _ r w M.laid) fun u4 M => ?_
  refine nT ?_
  refine ⟨M, ?_⟩
  refine qZ ?_
  refine ZG M 2 5 (w64 (nx s r h j)) fun u5 M => ?_
  refine nT ?_
  refine au_block ?_
  exact hgo _ _ M

set_option maxRecDepth 100000 in
set_option maxHeartbeats 4000000 in
theorem c_chunk (gq n cap : Nat) (w : World) (hL : Laid w)  :
    Calls Tryz.prog 112 #[.slice (some ⟨gq, 0, none⟩) n cap, .int .i64 16] w fun r w' => ∃ g k, r = .returned (.func (.func 125) #[] #[.pointer (some ⟨g, 0, none⟩), .pointer (some ⟨k, 0, none⟩)]) ∧ Mem ⟨w, []⟩ [⟨g, .cells (av 1 (fun _ => .slice (some ⟨gq, 0, none⟩) n cap)) 97⟩, ⟨k, .cells (av 1 (fun _ => .int .i64 16)) 3⟩] w' := by
  go_enter Tryz.func112, Tryz.ntmps112
  have M := Mem.start hL
  refine sR ?_
  refine pN M 2 (.cells (av 1 (fun _ => .slice (some ⟨gq, 0, none⟩) n cap)) 97) fun g1 u1 M => ?_
  refine pN M 3 (.cells (av 1 (fun _ => .int .i64 16)) 3) fun g2 u2 M => ?_
  refine rV 1 ?_
  refine nT ?_
  refine wp_seq ?_
  refine sR ?_
  refine ZE M 5 1 0 ?_
  refine rV 1 ?_
  refine nT ?_
  refine wp_cond_false (by kernel_rfl) ?_
  refine wp_skip ?_
  refine au_then ?_
  refine sq ?_
  refine wp_ret ?_
  exact bX (.func (.func 125) #[] #[.pointer (some ⟨g1, 0, none⟩), .pointer (some ⟨g2, 0, none⟩)]) ⟨g1, g2, rfl, M⟩

/-- The loop's record. -/
def lpr (st : LoopState) (pe : Option Code) (fn : FuncId) (T : Array Value) (sg bd : Code) (D : Nat) : Loop := { state := st, pending := pe, fn := fn, tmps := T, params := #[22], assign := sg, body := bd, defers := D }
def tF (gr gl gh : Nat) (v : Nat → Value) : Array Value := #[v 0, v 1, v 2, v 3, v 4, v 5, .pointer (some ⟨gr, 0, none⟩), .pointer (some ⟨gl, 0, none⟩), .pointer (some ⟨gh, 0, none⟩), v 9, v 10, v 11, v 12, v 13, v 14, v 15, v 16, v 17, v 18, v 19, v 20, v 21, v 22, v 23, v 24, v 25, v 26, v 27, v 28, v 29, v 30, v 31, v 32, v 33]

set_option maxRecDepth 100000 in
set_option maxHeartbeats 4000000 in
theorem c_iter (sg bd : Code) (hb : Tryz.f95.body.bind findRange = some (sg, bd)) (s : ByteArray) (r : Nat → Int) (hz : s.size ≤ 200000) (gr gl gh gq gs gn lp D cap : Nat) (Zl Zq : Obj) (hZ : SB Zq cap (vs8 (sb s))) (hcap : s.size ≤ cap) (fn : FuncId) (v : Nat → Value) (c : Ctx) (u : World)
    (M : Mem c [⟨gr, .cells (av 5 (w64 r)) 178⟩, ⟨gl, Zl⟩, ⟨gh, .cells (av 5 (w64 (sm s r 0))) 178⟩, ⟨gq, Zq⟩, ⟨gs, .cells (av 1 (fun _ => .slice (some ⟨gq, 0, none⟩) s.size cap)) 97⟩, ⟨gn, .cells (av 1 (fun _ => .int .i64 16)) 3⟩, ⟨D, .deferred (some [])⟩, ⟨lp, .loop (lpr .ready none fn (tF gr gl gh v) sg bd D)⟩] u) :
    Calls Tryz.prog 125 #[.func (.yield lp) #[] #[], .pointer (some ⟨gs, 0, none⟩), .pointer (some ⟨gn, 0, none⟩)] u fun e u' => (∃ v, e = .returned v) ∧ Mem c [⟨gr, .cells (av 5 (w64 r)) 178⟩, ⟨gl, Zl⟩, ⟨gh, .cells (av 5 (w64 (sm s r ((s.size + 15) / 16)))) 178⟩, ⟨gq, Zq⟩, ⟨gs, .cells (av 1 (fun _ => .slice (some ⟨gq, 0, none⟩) s.size cap)) 97⟩, ⟨gn, .cells (av 1 (fun _ => .int .i64 16)) 3⟩, ⟨D, .deferred (some [])⟩, ⟨lp, .loop (lpr .ready none fn (tF gr gl gh v) sg bd D)⟩] u' := by
  go_enter Tryz.func125, Tryz.ntmps125
  refine sq ?_
  refine wp_block ?_
  obtain ⟨N, hN⟩ : ∃ N, N = (s.size + 15) / 16 := ⟨_, rfl⟩
  rw [← hN]
  refine au_loop (fun j a u => ∃ v1 : Nat → Value, a = (fm ([.func (.yield lp) #[] #[], .pointer (some ⟨gs, 0, none⟩), .pointer (some ⟨gn, 0, none⟩), undef, .int .i64 ((16 * j : Nat) : Int)] ++ vr v1 5 26)) ∧ Mem c [⟨gr, .cells (av 5 (w64 r)) 178⟩, ⟨gl, Zl⟩, ⟨gh, .cells (av 5 (w64 (sm s r j))) 178⟩, ⟨gq, Zq⟩, ⟨gs, .cells (av 1 (fun _ => .slice (some ⟨gq, 0, none⟩) s.size cap)) 97⟩, ⟨gn, .cells (av 1 (fun _ => .int .i64 16)) 3⟩, ⟨D, .deferred (some [])⟩, ⟨lp, .loop (lpr .ready none fn (tF gr gl gh v) sg bd D)⟩] u) N (exS M) ?_ ?_
  · intro j a u0 hj hI
    clear M
    obtain ⟨v1, rfl, M⟩ := hI
    refine wp_seq ?_
    refine sR ?_
    refine rV 1 ?_
    refine ZE M 7 4 0 ?_
    refine rV 1 ?_
    refine ZT 9 (((16 * j : Nat) : Int) < ((s.size : Nat) : Int)) ?_
    refine nT ?_
    refine wp_cond_true (by kernel_rfl) ?_
    refine wp_skip ?_
    refine au_then ?_
    refine wp_seq ?_
    refine wp_block ?_
    refine wp_seq ?_
    refine rg_tail M 6 (by kernel_rfl) (by kernel_rfl) ?_
    simp only [List.take_succ_cons, List.take_zero]
    refine eE M 13 5 0 ?_
    refine eE M 14 4 0 ?_
    refine kR 1 ?_
    refine kH 16 (.slice (some ⟨gq, (0 + 16 * j), none⟩) (s.size - 16 * j) (cap - 16 * j)) (run_slL 97 5 Tryz.underlying97 inz5 _ _ rfl gq 0 s.size cap (by kernel_rfl) .i64 (16 * j) (by kernel_rfl) (by omega) (by omega)) ?_
    refine kR 1 ?_
    refine kH 18 (.int .i64 ((min 16 (s.size - 16 * j) : Nat) : Int)) (fun w => Eq.trans (b := .ok (.value (.int .i64 (if ((s.size - 16 * j : Nat) : Int) < (16 : Int) then ((s.size - 16 * j : Nat) : Int) else (16 : Int)))) w) (by kernel_rfl) (by rw [show (if ((s.size - 16 * j : Nat) : Int) < (16 : Int) then ((s.size - 16 * j : Nat) : Int) else (16 : Int)) = ((min 16 (s.size - 16 * j) : Nat) : Int) from min_if 16 (s.size - 16 * j)])) ?_
    refine kl_nil fun u1 M => ?_
    refine rV 1 ?_
    refine nT ?_
    refine wp_seq ?_
    refine rg_yieldN 10 (by kernel_rfl) (fun _ _ h => by obtain ⟨⟨_, e⟩, _⟩ := h; cases e) ?_
    simp only [List.take_succ_cons, List.take_zero, List.drop_succ_cons, List.drop_zero]
    refine rV 1 ?_
    refine ZE M 20 4 0 ?_
    refine rV 3 ?_
    refine ZI 24 (((16 * j : Nat) : Int) + ((min 16 (s.size - 16 * j) : Nat) : Int)) ((16 * j + min 16 (s.size - 16 * j) : Nat) : Int) ?_
    refine rV 2 ?_
    refine ZI 27 (((16 * j : Nat) : Int) + ((min 16 (s.size - 16 * j) : Nat) : Int)) ((16 * j + min 16 (s.size - 16 * j) : Nat) : Int) ?_
    refine pH 28 (.slice (some ⟨gq, (16 * j), none⟩) (min 16 (s.size - 16 * j)) (min 16 (s.size - 16 * j))) (fun w => Eq.trans (run_slM 97 5 Tryz.underlying97 inz5 _ _ _ _ rfl gq 0 s.size cap (by kernel_rfl) .i64 .i64 .i64 (16 * j) (16 * j + min 16 (s.size - 16 * j)) (by kernel_rfl) (by kernel_rfl) (by kernel_rfl) (by omega) (by omega) w) (by rw [Nat.zero_add, Nat.add_sub_cancel_left])) ?_
    refine nT ?_
    refine pl_yield lp (lpr .ready none fn (tF gr gl gh v) sg bd D) #[.slice (some ⟨gq, (16 * j), none⟩) (min 16 (s.size - 16 * j)) (min 16 (s.size - 16 * j))] (M.get 7 rfl) rfl rfl (by kernel_rfl) (fun _ => by kernel_rfl) (want_no rfl) ?_
    refine code_is1 (O := Tryz.f95.body.bind findRange) rfl hb ?_
    refine fr_is (b := (fm (vr v 0 6 ++ [.pointer (some ⟨gr, 0, none⟩), .pointer (some ⟨gl, 0, none⟩), .pointer (some ⟨gh, 0, none⟩)] ++ vr v 9 13 ++ [.slice (some ⟨gq, (16 * j), none⟩) (min 16 (s.size - 16 * j)) (min 16 (s.size - 16 * j))] ++ vr v 23 11))) (by kernel_rfl) ?_
    refine rr_lit (by kernel_rfl) (fun _ _ h => h) ?_
    refine rV 1 ?_
    refine nT ?_
    refine ⟨M.get 7 rfl, ?_⟩
    have M2 := M.putO 7 lp _ (.loop { lpr .ready none fn (tF gr gl gh v) sg bd D with state := .busy }) rfl
    refine fr_is (b := (fm (vr v 0 6 ++ [.pointer (some ⟨gr, 0, none⟩), .pointer (some ⟨gl, 0, none⟩), .pointer (some ⟨gh, 0, none⟩), .slice (some ⟨gq, (16 * j), none⟩) (min 16 (s.size - 16 * j)) (min 16 (s.size - 16 * j))] ++ vr v 10 12 ++ [.slice (some ⟨gq, (16 * j), none⟩) (min 16 (s.size - 16 * j)) (min 16 (s.size - 16 * j))] ++ vr v 23 11))) (by kernel_rfl) ?_
    refine r_body sg bd hb s r (sm s r j) j (by omega) gr gl gh gq cap lp Zl Zq hZ [⟨gs, .cells (av 1 (fun _ => .slice (some ⟨gq, 0, none⟩) s.size cap)) 97⟩, ⟨gn, .cells (av 1 (fun _ => .int .i64 16)) 3⟩, ⟨D, .deferred (some [])⟩, ⟨lp, .loop { lpr .ready none fn (tF gr gl gh v) sg bd D with state := .busy }⟩] (fun k_ => ([v 0, v 1, v 2, v 3, v 4, v 5, .pointer (some ⟨gr, 0, none⟩), .pointer (some ⟨gl, 0, none⟩), .pointer (some ⟨gh, 0, none⟩), .slice (some ⟨gq, (16 * j), none⟩) (min 16 (s.size - 16 * j)) (min 16 (s.size - 16 * j)), v 10, v 11, v 12, v 13, v 14, v 15, v 16, v 17, v 18, v 19, v 20, v 21, .slice (some ⟨gq, (16 * j), none⟩) (min 16 (s.size - 16 * j)) (min 16 (s.size - 16 * j)), v 23, v 24, v 25, v 26, v 27, v 28, v 29, v 30, v 31, v 32, v 33] : List Value).getD (k_ - 0) undef) c _ _ (fun _ _ h => h) (fun _ _ _ h => h) M2 ?_
    intro a9 u9 M3
    refine ⟨lpr .busy none fn (tF gr gl gh v) sg bd D, M3.get 7 rfl, ?_⟩
    have M4 := M3.putO 7 lp _ (.loop { lpr .busy none fn (tF gr gl gh v) sg bd D with state := .ready, pending := none }) rfl
    generalize u9.putObj lp _ = u8 at M4 ⊢
    clear M
    have M : Mem c [⟨gr, .cells (av 5 (w64 r)) 178⟩, ⟨gl, Zl⟩, ⟨gh, .cells (av 5 (w64 (sm s r (j + 1)))) 178⟩, ⟨gq, Zq⟩, ⟨gs, .cells (av 1 (fun _ => .slice (some ⟨gq, 0, none⟩) s.size cap)) 97⟩, ⟨gn, .cells (av 1 (fun _ => .int .i64 16)) 3⟩, ⟨D, .deferred (some [])⟩, ⟨lp, .loop (lpr .ready none fn (tF gr gl gh v) sg bd D)⟩] u8 := M4
    refine in_list (by kernel_rfl) (fun _ _ h => by obtain ⟨⟨_, e⟩, _⟩ := h; cases e) ?_
    refine rV 1 ?_
    refine nT ?_
    refine wp_cond_false (by kernel_rfl) ?_
    refine wp_skip ?_
    refine au_block ?_
    refine au_then ?_
    refine rg_lit ?_
    refine rV 1 ?_
    refine ZE M 11 5 0 ?_
    refine ZI 12 (((16 * j : Nat) : Int) + 16) ((16 * (j + 1) : Nat) : Int) ?_
    refine rV 1 ?_
    refine nT ?_
    exact exS M
  · intro a u0 hI
    clear M
    obtain ⟨v1, rfl, M⟩ := hI
    refine wp_seq ?_
    refine sR ?_
    refine rV 1 ?_
    refine ZE M 7 4 0 ?_
    refine rV 1 ?_
    refine ZF 9 (((16 * N : Nat) : Int) < ((s.size : Nat) : Int)) ?_
    refine nT ?_
    refine wp_cond_false (by kernel_rfl) ?_
    refine wp_exit ?_
    refine au_then_exit ?_
    refine au_then_exit ?_
    refine au_block_exit ?_
    exact bodyPost_end (v := .tuple #[]) (results_none Tryz.results125 _ _) (by kernel_rfl) ⟨⟨_, rfl⟩, M⟩

end Go.Proofs.YtenafinbaanicaaGreatDoor.Pol
namespace Go.Proofs.YtenafinbaanicaaGreatDoor.Pol
open Go.RowKit

/-- The number by which is multiplied, and the one that is added at the end. -/
def rF (key : ByteArray) : Nat → Int := noF (fc2 (fc1 (pd (bt (key.extract 0 16)) 16)))
def lF (key : ByteArray) : Nat → Int := noF (pd (bt (key.extract 16 key.size)) 16)
def tgS (key s : ByteArray) : ByteArray := txS (plF (lsF (sm s (rF key) ((s.size + 15) / 16))) (lF key))
theorem c_iterT (sg bd : Code) (hb : Tryz.f95.body.bind findRange = some (sg, bd)) (s : ByteArray) (r : Nat → Int) (hz : s.size ≤ 200000) (gr gl gh gq gs gn lp D cap : Nat) (Zl Zq : Obj) (hZ : SB Zq cap (vs8 (sb s))) (hcap : s.size ≤ cap) (fn : FuncId) (v : Nat → Value) (T : Array Value) (hT : T = tF gr gl gh v) (c : Ctx) (u : World)
    (M : Mem c [⟨gr, .cells (av 5 (w64 r)) 178⟩, ⟨gl, Zl⟩, ⟨gh, .cells (av 5 (w64 (sm s r 0))) 178⟩, ⟨gq, Zq⟩, ⟨gs, .cells (av 1 (fun _ => .slice (some ⟨gq, 0, none⟩) s.size cap)) 97⟩, ⟨gn, .cells (av 1 (fun _ => .int .i64 16)) 3⟩, ⟨D, .deferred (some [])⟩, ⟨lp, .loop (lpr .ready none fn T sg bd D)⟩] u) :
    Calls Tryz.prog 125 #[.func (.yield lp) #[] #[], .pointer (some ⟨gs, 0, none⟩), .pointer (some ⟨gn, 0, none⟩)] u fun e u' => (∃ v, e = .returned v) ∧ ∃ q : Loop, q.state ≠ .busy ∧ q.pending = none ∧ Mem c [⟨gr, .cells (av 5 (w64 r)) 178⟩, ⟨gl, Zl⟩, ⟨gh, .cells (av 5 (w64 (sm s r ((s.size + 15) / 16)))) 178⟩, ⟨gq, Zq⟩, ⟨gs, .cells (av 1 (fun _ => .slice (some ⟨gq, 0, none⟩) s.size cap)) 97⟩, ⟨gn, .cells (av 1 (fun _ => .int .i64 16)) 3⟩, ⟨D, .deferred (some [])⟩, ⟨lp, .loop q⟩] u' := by
  subst hT
  exact (c_iter sg bd hb s r hz gr gl gh gq gs gn lp D cap Zl Zq hZ hcap fn v c u M).mono fun e u' h => ⟨h.1, lpr .ready none fn (tF gr gl gh v) sg bd D, (show LoopState.ready ≠ LoopState.busy by decide), rfl, h.2⟩

set_option maxRecDepth 100000 in
set_option maxHeartbeats 4000000 in
theorem c_TagA (key s : ByteArray) (hk : key.size = 32) (hz : s.size ≤ 200000) (w : World) (hL : Laid w) : Calls Tryz.prog 95 #[.string key, .string s] w fun r w' => r = .returned (.tuple #[.string (tgS key s), .int .i64 0]) ∧ Below w.heap.size w w' := by
  refine (callsIn_wide (n := 0)).1 (callsIn_of_wp_marks Tryz.func95 rfl trivial ?_)
  refine (wpIn_wide (n := 0)).2 ?_
  refine fr_w (b := (fm ([.string key, .string s] ++ und 32))) (by kernel_rfl) ?_
  have M := Mem.start hL
  refine sq ?_
  refine wp_seq ?_
  refine sR ?_
  refine rV 2 ?_
  refine ZD 12 ((key.size : Int) = 32) ?_
  refine nT ?_
  refine wp_cond_false (by kernel_rfl) ?_
  refine wp_skip ?_
  refine au_then ?_
  refine wp_seq ?_
  refine rg_allocs M 6 [(6, fun g => .pointer (some ⟨g, 0, none⟩), (.cells (av 5 (w64 (fun _ => 0))) 178)), (7, fun g => .pointer (some ⟨g, 0, none⟩), (.cells (av 5 (w64 (fun _ => 0))) 178))] (by kernel_rfl) (by kernel_rfl) (⟨rfl, rfl, fun _ _ => by kernel_rfl, ⟨rfl, rfl, fun _ _ => by kernel_rfl, trivial⟩⟩) (by decide) ?_
  simp only [List.take_succ_cons, List.take_zero]
  refine kR 1 ?_
  refine kH 14 (.string (key.extract 0 16)) (run_strh 9 Tryz.underlying9 _ _ rfl key (by kernel_rfl) .i64 16 (by kernel_rfl) (by omega) _ rfl) ?_
  refine kC M 15 110 #[.string (key.extract 0 16)] (.agg (av 5 (w64 (rF key)))) (fun w M => c_factor _ (by rw [ByteArray.size_extract]; omega) w M.laid) ?_
  refine kR 1 ?_
  refine kH 17 (.string (key.extract 16 key.size)) (run_strl 9 Tryz.underlying9 _ _ rfl key (by kernel_rfl) .i64 16 (by kernel_rfl) (by omega) _ rfl) ?_
  refine kC M 18 111 #[.string (key.extract 16 key.size)] (.agg (av 5 (w64 (lF key)))) (fun w M => c_plain _ (by rw [ByteArray.size_extract]; omega) w M.laid) ?_
  refine kl_nil fun u1 g1 g2 M => ?_
  refine ZG M 0 5 (w64 (rF key)) fun u2 M => ?_
  refine ZG M 1 5 (w64 (lF key)) fun u3 M => ?_
  refine nT ?_
  refine sR ?_
  refine pN M 8 (.cells (av 5 (w64 (fun _ => 0))) 178) fun g3 u4 M => ?_
  refine nT ?_
  refine wp_seq ?_
  refine sR ?_
  refine rV 1 ?_
  refine pl_conv M (want_no rfl) (some 20) rfl _ rfl s (by kernel_rfl) ?_
  intro gq capq Zq u5 hZq M
  have hcap : s.size ≤ capq := by have := hZq.le; rwa [vs8_length, sb_length] at this
  refine pl_calltwo M (want_no rfl) (some 21) rfl 112 #[.slice (some ⟨gq, 0, none⟩) s.size capq, .int .i64 16] (fun g k => .func (.func 125) #[] #[.pointer (some ⟨g, 0, none⟩), .pointer (some ⟨k, 0, none⟩)]) (.cells (av 1 (fun _ => .slice (some ⟨gq, 0, none⟩) s.size capq)) 97) (.cells (av 1 (fun _ => .int .i64 16)) 3) (fun _ => by kernel_rfl) (fun w M => c_chunk gq s.size capq w M.laid) ?_
  intro gs gn u6 M
  refine nT ?_
  refine wp_block ?_
  refine fr_w (b := (fm ([.string key, .string s, undef, undef, .string ⟨#[]⟩, .int .i64 0, .pointer (some ⟨g1, 0, none⟩), .pointer (some ⟨g2, 0, none⟩), .pointer (some ⟨g3, 0, none⟩), undef, .string key, .int .i64 (key.size : Int), .bool false, .string key, .string (key.extract 0 16), .agg (av 5 (w64 (rF key))), .string key, .string (key.extract 16 key.size), .agg (av 5 (w64 (lF key))), .string s, .slice (some ⟨gq, 0, none⟩) s.size capq, .func (.func 125) #[] #[.pointer (some ⟨gs, 0, none⟩), .pointer (some ⟨gn, 0, none⟩)]] ++ und 12))) (by kernel_rfl) ?_
  refine wp_range (gf := 125) (lb := #[.pointer (some ⟨gs, 0, none⟩), .pointer (some ⟨gn, 0, none⟩)]) rfl (enters_of Tryz.func125 (by kernel_rfl) rfl) ?_
  intro fn
  refine (c_iterT _ _ rfl s (rF key) hz g1 g2 g3 gq gs gn _ _ capq _ Zq hZq hcap fn (fun k_ => ([.string key, .string s, undef, undef, .string ⟨#[]⟩, .int .i64 0, .pointer (some ⟨g1, 0, none⟩), .pointer (some ⟨g2, 0, none⟩), .pointer (some ⟨g3, 0, none⟩), undef, .string key, .int .i64 (key.size : Int), .bool false, .string key, .string (key.extract 0 16), .agg (av 5 (w64 (rF key))), .string key, .string (key.extract 16 key.size), .agg (av 5 (w64 (lF key))), .string s, .slice (some ⟨gq, 0, none⟩) s.size capq, .func (.func 125) #[] #[.pointer (some ⟨gs, 0, none⟩), .pointer (some ⟨gn, 0, none⟩)], undef, undef, undef, undef, undef, undef, undef, undef, undef, undef, undef, undef] : List Value).getD (k_ - 0) undef) _ (by kernel_rfl) ⟨w, []⟩ _ (M.alloc2 _ _)).mono ?_
  rintro e w3 ⟨he, q, hr1, hr2, M2⟩
  refine ⟨he, q, M2.get 7 rfl, hr1, ?_⟩
  rw [hr2]
  have M3 := M2.putO 7 _ _ (.loop { q with state := .exhausted, pending := none }) rfl
  clear M M2
  have M := M3
  refine au_block ?_
  refine au_then ?_
  refine wp_seq ?_
  refine rg_tail M 6 (by kernel_rfl) (by kernel_rfl) ?_
  simp only [List.take_succ_cons, List.take_zero]
  refine kA M 29 2 5 (w64 (sm s (rF key) ((s.size + 15) / 16))) ?_
  refine kC M 30 116 #[.agg (av 5 (w64 (sm s (rF key) ((s.size + 15) / 16))))] (.agg (av 5 (w64 (lsF (sm s (rF key) ((s.size + 15) / 16)))))) (fun w M => c_least _ w M.laid) ?_
  refine kA M 31 1 5 (w64 (lF key)) ?_
  refine kC M 32 113 #[.agg (av 5 (w64 (lsF (sm s (rF key) ((s.size + 15) / 16))))), .agg (av 5 (w64 (lF key)))] (.agg (av 5 (w64 (plF (lsF (sm s (rF key) ((s.size + 15) / 16))) (lF key))))) (fun w M => c_plus _ _ w M.laid) ?_
  refine kC M 33 117 #[.agg (av 5 (w64 (plF (lsF (sm s (rF key) ((s.size + 15) / 16))) (lF key))))] (.string (tgS key s)) (fun w M => c_text _ w M.laid) ?_
  refine kR 1 ?_
  refine kl_nil fun u7 M => ?_
  refine rV 1 ?_
  refine nT ?_
  refine wp_ret ?_
  refine marks_ret (v := .tuple #[.string (tgS key s), .int .i64 0]) rfl (M.get 6 rfl) (fun w => results_tmp2 Tryz.results95 _ w _ _ (by kernel_rfl) (by kernel_rfl)) ⟨rfl, below_grown (M.putO 6 _ _ (.deferred none) rfl).old⟩

set_option maxRecDepth 100000 in
set_option maxHeartbeats 4000000 in
theorem c_TagB (key s : ByteArray) (hk : key.size ≠ 32) (w : World) (hL : Laid w)  :
    Calls Tryz.prog 95 #[.string key, .string s] w fun r w' => r = .returned (.tuple #[.string ⟨#[]⟩, .int .i64 2]) ∧ Below w.heap.size w w' := by
  go_enter Tryz.func95, Tryz.ntmps95
  have M := Mem.start hL
  refine sq ?_
  refine wp_seq ?_
  refine sR ?_
  refine rV 2 ?_
  refine ZS 12 ((key.size : Int) = 32) ?_
  refine nT ?_
  refine wp_cond_true (by kernel_rfl) ?_
  refine sq ?_
  refine wp_ret ?_
  refine au_then_ret ?_
  exact b1 M


end Go.Proofs.YtenafinbaanicaaGreatDoor.Pol
namespace Go.Proofs.YtenafinbaanicaaGreatDoor.Pol
open Go.RowKit

theorem ua_eq (x y : Int) (h0 : 0 ≤ x + y) (h1 : x + y < 18446744073709551616) : ua x y = x + y := by
  unfold ua
  simp [IntKind.wrap, IntKind.signed, IntKind.bits]
  omega
theorem um_eq (x y : Int) (h0 : 0 ≤ x * y) (h1 : x * y < 18446744073709551616) : um x y = x * y := by
  unfold um
  simp [IntKind.wrap, IntKind.signed, IntKind.bits]
  omega
theorem sl_eq (x : Int) (n : Nat) (h0 : 0 ≤ x * 2 ^ n) (h1 : x * 2 ^ n < 18446744073709551616) : sl x n = x * 2 ^ n := by
  unfold sl
  simp [IntKind.wrap, IntKind.signed, IntKind.bits]
  omega
theorem sr_eq (x : Int) (n : Nat) : sr x n = x / 2 ^ n := by
  unfold sr
  rw [Int.fdiv_eq_ediv_of_nonneg x (Int.le_of_lt (Int.pow_pos (by decide)))]
theorem cv8_eq (x : Int) : cv .u8 x = x % 256 := by
  unfold cv
  simp [IntKind.wrap, IntKind.signed, IntKind.bits]
theorem cv64_eq (x : Int) (h0 : 0 ≤ x) (h1 : x < 18446744073709551616) : cv .u64 x = x := by
  unfold cv
  simp [IntKind.wrap, IntKind.signed, IntKind.bits]
  omega
theorem wrap_bv (b : BitVec 64) : IntKind.wrap .u64 (b.toNat : Int) = (b.toNat : Int) := by
  have := b.isLt
  simp [IntKind.wrap, IntKind.signed, IntKind.bits]
  omega
theorem bv_nat (n : Nat) (h : n < 18446744073709551616) : (BitVec.ofInt 64 (n : Int)).toNat = n := by
  rw [BitVec.toNat_ofInt]
  omega
theorem un_nat (n m : Nat) (hn : n < 18446744073709551616) (hm : m < 18446744073709551616) : un (n : Int) (m : Int) = ((n &&& m : Nat) : Int) := by
  unfold un
  rw [wrap_bv, BitVec.toNat_and, bv_nat n hn, bv_nat m hm]
theorem uo_nat (n m : Nat) (hn : n < 18446744073709551616) (hm : m < 18446744073709551616) : uo (n : Int) (m : Int) = ((n ||| m : Nat) : Int) := by
  unfold uo
  rw [wrap_bv, BitVec.toNat_or, bv_nat n hn, bv_nat m hm]
theorem un_low (k : Nat) (hk : k ≤ 63) (x : Int) (h0 : 0 ≤ x) (h1 : x < 18446744073709551616) : un x (((2 ^ k - 1 : Nat) : Nat) : Int) = x % ((2 ^ k : Nat) : Int) := by
  obtain ⟨n, rfl⟩ : ∃ n : Nat, x = (n : Int) := ⟨x.toNat, by omega⟩
  have hp : 2 ^ k ≤ 2 ^ 63 := Nat.pow_le_pow_right (by decide) hk
  rw [un_nat n _ (by omega) (by omega), Nat.and_two_pow_sub_one_eq_mod]
  omega
theorem un26 (x : Int) (h0 : 0 ≤ x) (h1 : x < 18446744073709551616) : un x 67108863 = x % 67108864 := un_low 26 (by decide) x h0 h1
theorem un8 (x : Int) (h0 : 0 ≤ x) (h1 : x < 18446744073709551616) : un x 255 = x % 256 := un_low 8 (by decide) x h0 h1
theorem un2 (x : Int) (h0 : 0 ≤ x) (h1 : x < 18446744073709551616) : un x 3 = x % 4 := un_low 2 (by decide) x h0 h1
theorem un4 (x : Int) (h0 : 0 ≤ x) (h1 : x < 18446744073709551616) : un x 15 = x % 16 := un_low 4 (by decide) x h0 h1
/-- Bits that do not meet are added. -/
theorem uo_add (k : Nat) (x y : Int) (h0 : 0 ≤ x) (h1 : x < ((2 ^ k : Nat) : Int)) (h2 : 0 ≤ y) (h3 : x + y * ((2 ^ k : Nat) : Int) < 18446744073709551616) : uo x (y * ((2 ^ k : Nat) : Int)) = x + y * ((2 ^ k : Nat) : Int) := by
  obtain ⟨n, rfl⟩ : ∃ n : Nat, x = (n : Int) := ⟨x.toNat, by omega⟩
  obtain ⟨m, rfl⟩ : ∃ m : Nat, y = (m : Int) := ⟨y.toNat, by omega⟩
  have hn : n < 2 ^ k := by omega
  have e : ((m : Int) * ((2 ^ k : Nat) : Int)) = ((2 ^ k * m : Nat) : Int) := by rw [Nat.mul_comm, Int.natCast_mul]
  rw [e] at h3 ⊢
  rw [uo_nat n _ (by omega) (by omega), Nat.or_comm, ← Nat.two_pow_add_eq_or_of_lt hn]
  omega

/-- The value of the first n parts. -/
def V (b : Int) : Nat → (Nat → Int) → Int
  | 0, _ => 0
  | n + 1, f => V b n f + f n * b ^ n
theorem V_congr (b : Int) : ∀ (n : Nat) (f g : Nat → Int), (∀ i, i < n → f i = g i) → V b n f = V b n g
  | 0, _, _, _ => rfl
  | n + 1, f, g, h => by
    unfold V
    rw [V_congr b n f g (fun i hi => h i (by omega)), h n (by omega)]
theorem V_upd (b : Int) : ∀ (n : Nat) (f : Nat → Int) (k : Nat) (x : Int), k < n → V b n (upd f k x) = V b n f + (x - f k) * b ^ k
  | 0, _, _, _, h => absurd h (by omega)
  | n + 1, f, k, x, h => by
    unfold V
    by_cases e : k = n
    · subst e
      rw [V_congr b k (upd f k x) f (fun i hi => if_neg (by omega)), show upd f k x k = x from if_pos rfl, Int.sub_mul]
      omega
    · rw [V_upd b n f k x (by omega), show upd f k x n = f n from if_neg (by omega)]
      omega
theorem V_add (b : Int) : ∀ (n : Nat) (f g : Nat → Int), V b n (fun i => f i + g i) = V b n f + V b n g
  | 0, _, _ => rfl
  | n + 1, f, g => by
    unfold V
    rw [V_add b n f g, Int.add_mul]
    omega
theorem V_mul (b c : Int) : ∀ (n : Nat) (f : Nat → Int), V b n (fun i => c * f i) = c * V b n f
  | 0, _ => by simp [V]
  | n + 1, f => by
    unfold V
    rw [V_mul b c n f, Int.mul_add, Int.mul_assoc]
theorem V_split (b : Int) (n : Nat) : ∀ (m : Nat) (f : Nat → Int), V b (n + m) f = V b n f + b ^ n * V b m (fun i => f (n + i))
  | 0, _ => by simp [V]
  | m + 1, f => by
    show V b (n + m) f + f (n + m) * b ^ (n + m) = _
    rw [V_split b n m f]
    show _ = V b n f + b ^ n * (V b m (fun i => f (n + i)) + f (n + m) * b ^ m)
    rw [Int.mul_add, Int.pow_add]
    have : f (n + m) * (b ^ n * b ^ m) = b ^ n * (f (n + m) * b ^ m) := by grind
    omega
theorem V_nn (b : Int) (hb : 0 ≤ b) : ∀ (n : Nat) (f : Nat → Int), (∀ i, i < n → 0 ≤ f i) → 0 ≤ V b n f
  | 0, _, _ => by simp [V]
  | n + 1, f, h => by
    unfold V
    have h1 := V_nn b hb n f (fun i hi => h i (by omega))
    have h2 := Int.mul_nonneg (h n (by omega)) (show (0 : Int) ≤ b ^ n from Int.pow_nonneg hb)
    omega
/-- Parts below a bound: the value is below as much of the next power. -/
theorem V_le (b : Int) (hb : 2 ≤ b) (c : Int) (hc : 0 ≤ c) : ∀ (n : Nat) (f : Nat → Int), (∀ i, i < n → f i ≤ c * (b - 1)) → V b n f ≤ c * (b ^ n - 1)
  | 0, _, _ => by simp [V]
  | n + 1, f, h => by
    unfold V
    have h1 := V_le b hb c hc n f (fun i hi => h i (by omega))
    have hp : 0 ≤ b ^ n := Int.pow_nonneg (by omega)
    have h2 := Int.mul_le_mul_of_nonneg_right (h n (by omega)) hp
    have e : c * (b - 1) * b ^ n = c * (b ^ (n + 1) - 1) - c * (b ^ n - 1) := by
      rw [Int.pow_succ]
      grind
    omega
theorem V_lt (b : Int) (hb : 2 ≤ b) (n : Nat) (f : Nat → Int) (h : ∀ i, i < n → f i < b) : V b n f < b ^ n := by
  have := V_le b hb 1 (by decide) n f (fun i hi => by have := h i hi; omega)
  omega
/-- A chain of carries. -/
structure Ch (b : Int) (a : Nat → Int) (j : Nat) (c : Int) (s : Nat → Int) : Prop where
  c0 : 0 ≤ c
  c1 : c < 4611686018427387904
  val : V b j s + c * b ^ j = V b j a
  dig : ∀ i, i < j → 0 ≤ s i ∧ s i < b
theorem chain (m : Int) (sh : Nat) (b : Int) (hb : 2 ≤ b) (hm : ∀ x, 0 ≤ x → x < 18446744073709551616 → un x m = x % b) (hs : ∀ x, sr x sh = x / b) (a : Nat → Int) : ∀ (j : Nat), (∀ i, i < j → 0 ≤ a i ∧ a i < 4611686018427387904) → Ch b a j (cy sh a j) (st m sh a j)
  | 0, _ => ⟨by simp [cy], by simp [cy], by simp [V, cy], fun i hi => absurd hi (by omega)⟩
  | j + 1, h => by
    have ih := chain m sh b hb hm hs a j (fun i hi => h i (by omega))
    have hj := h j (by omega)
    have c0 := ih.c0
    have c1 := ih.c1
    have e1 : ua (a j) (cy sh a j) = a j + cy sh a j := ua_eq _ _ (by omega) (by omega)
    have e2 : cy sh a (j + 1) = (a j + cy sh a j) / b := by
      show sr (ua (a j) (cy sh a j)) sh = _
      rw [e1, hs]
    have e3 : st m sh a (j + 1) = upd (st m sh a j) j ((a j + cy sh a j) % b) := by
      show upd (st m sh a j) j (un (ua (a j) (cy sh a j)) m) = _
      rw [e1, hm _ (by omega) (by omega)]
    have hx : 0 ≤ a j + cy sh a j := by omega
    have hx1 : a j + cy sh a j < 9223372036854775808 := by omega
    have hv := ih.val
    have hd := ih.dig
    rw [e2, e3]
    generalize cy sh a j = c at *
    generalize st m sh a j = s at *
    have q0 : 0 ≤ (a j + c) / b := Int.ediv_nonneg hx (by omega)
    have r0 : 0 ≤ (a j + c) % b := Int.emod_nonneg _ (by omega)
    have r1 : (a j + c) % b < b := Int.emod_lt_of_pos _ (by omega)
    have eq : (a j + c) % b + b * ((a j + c) / b) = a j + c := Int.emod_add_mul_ediv _ _
    refine ⟨q0, ?_, ?_, ?_⟩
    · have : 2 * ((a j + c) / b) ≤ b * ((a j + c) / b) := Int.mul_le_mul_of_nonneg_right hb q0
      omega
    · unfold V
      rw [V_congr b j (upd s j _) s (fun i hi => if_neg (by omega)), show upd s j ((a j + c) % b) j = (a j + c) % b from if_pos rfl, Int.pow_succ]
      generalize (a j + c) / b = q at *
      generalize (a j + c) % b = r at *
      have e : r * b ^ j + q * (b ^ j * b) = (a j + c) * b ^ j := by
        rw [← eq]
        grind
      rw [Int.add_mul] at e
      omega
    · intro i hi
      by_cases e : i = j
      · subst e
        rw [show upd s i ((a i + c) % b) i = (a i + c) % b from if_pos rfl]
        exact ⟨r0, r1⟩
      · rw [show upd s j ((a j + c) % b) i = s i from if_neg e]
        exact hd i (by omega)
theorem sr26 (x : Int) : sr x 26 = x / 67108864 := sr_eq x 26
theorem sr8 (x : Int) : sr x 8 = x / 256 := sr_eq x 8
theorem sr2 (x : Int) : sr x 2 = x / 4 := sr_eq x 2
theorem chain26 (a : Nat → Int) (j : Nat) (h : ∀ i, i < j → 0 ≤ a i ∧ a i < 4611686018427387904) : Ch 67108864 a j (cy 26 a j) (st 67108863 26 a j) := chain 67108863 26 67108864 (by decide) un26 sr26 a j h
theorem chain8 (a : Nat → Int) (j : Nat) (h : ∀ i, i < j → 0 ≤ a i ∧ a i < 4611686018427387904) : Ch 256 a j (cy 8 a j) (st 255 8 a j) := chain 255 8 256 (by decide) un8 sr8 a j h
/-- What is carried out is what is above. -/
theorem Ch.cut {b : Int} {a s : Nat → Int} {j : Nat} {c : Int} (h : Ch b a j c s) (hb : 2 ≤ b) : c = V b j a / b ^ j ∧ V b j s = V b j a % b ^ j := by
  have h0 := V_nn b (by omega) j s (fun i hi => (h.dig i hi).1)
  have h1 := V_lt b hb j s (fun i hi => (h.dig i hi).2)
  have hp : 0 < b ^ j := Int.pow_pos (by omega)
  rw [← h.val]
  constructor
  · rw [Int.add_mul_ediv_right _ _ (by omega), Int.ediv_eq_zero_of_lt h0 h1]
    omega
  · rw [Int.add_mul_emod_self_right, Int.emod_eq_of_lt h0 h1]

end Go.Proofs.YtenafinbaanicaaGreatDoor.Pol
namespace Go.Proofs.YtenafinbaanicaaGreatDoor.Pol
open Go.RowKit

theorem pB5 : (67108864 : Int) ^ 5 = 1361129467683753853853498429727072845824 := by decide
theorem s5_val (a : Nat → Int) (h : ∀ i, i < 5 → 0 ≤ a i ∧ a i < 4611686018427387904) : (c5 a = V 67108864 5 a / 1361129467683753853853498429727072845824 ∧ V 67108864 5 (s5 a) = V 67108864 5 a % 1361129467683753853853498429727072845824) ∧ (∀ i, i < 5 → 0 ≤ s5 a i ∧ s5 a i < 67108864) ∧ 0 ≤ c5 a ∧ c5 a < 4611686018427387904 := by
  have C := chain26 a 5 h
  have H := C.cut (by decide)
  rw [pB5] at H
  exact ⟨H, C.dig, C.c0, C.c1⟩
theorem V0 (b : Int) (n : Nat) (f : Nat → Int) (x : Int) (h : 0 < n) : V b n (upd f 0 x) = V b n f + (x - f 0) := by
  rw [V_upd b n f 0 x h]
  simp
theorem up_at (f : Nat → Int) (k : Nat) (x : Int) : upd f k x k = x := if_pos rfl
theorem up_ne (f : Nat → Int) (k : Nat) (x : Int) {j : Nat} (h : j ≠ k) : upd f k x j = f j := if_neg h
theorem cr1_val (a : Nat → Int) (h : ∀ i, i < 5 → 0 ≤ a i ∧ a i < 1152921504606846976) : V 67108864 5 (cr1 a) = V 67108864 5 a % 1361129467683753853853498429727072845824 + 5 * (V 67108864 5 a / 1361129467683753853853498429727072845824) ∧ (∀ i, i < 5 → 0 ≤ cr1 a i ∧ cr1 a i < 67108864 + 5 * (V 67108864 5 a / 1361129467683753853853498429727072845824)) ∧ 0 ≤ V 67108864 5 a / 1361129467683753853853498429727072845824 ∧ V 67108864 5 a / 1361129467683753853853498429727072845824 < 34359738368 := by
  obtain ⟨⟨h1, h2⟩, h3, h4, h5⟩ := s5_val a (fun i hi => by have := h i hi; omega)
  have n0 := V_nn 67108864 (by decide) 5 a (fun i hi => (h i hi).1)
  have n1 := V_le 67108864 (by decide) 34359738368 (by decide) 5 a (fun i hi => by have := h i hi; omega)
  rw [pB5] at n1
  have q0 : 0 ≤ V 67108864 5 a / 1361129467683753853853498429727072845824 := by omega
  have q1 : V 67108864 5 a / 1361129467683753853853498429727072845824 < 34359738368 := by omega
  have z := h3 0 (by decide)
  have e : cr1 a = upd (s5 a) 0 (s5 a 0 + 5 * (V 67108864 5 a / 1361129467683753853853498429727072845824)) := by
    unfold cr1
    rw [h1]
    generalize V 67108864 5 a / 1361129467683753853853498429727072845824 = q at *
    rw [um_eq q 5 (by omega) (by omega), ua_eq _ _ (by omega) (by omega), Int.mul_comm]
  refine ⟨?_, ?_, q0, q1⟩
  · rw [e, V0 _ _ _ _ (by decide), h2]
    omega
  · intro i hi
    have := h3 i hi
    rw [e]
    by_cases c : i = 0
    · subst c
      rw [up_at]
      omega
    · rw [up_ne _ _ _ c]
      omega
/-- Parts of a number that may be gone on with. -/
structure Good (h : Nat → Int) : Prop where
  part : ∀ i, i < 5 → 0 ≤ h i ∧ h i < 67108870
  lt : V 67108864 5 h < 1361129467683753853853498429727072845824
theorem Good.nn {h : Nat → Int} (g : Good h) : 0 ≤ V 67108864 5 h := V_nn _ (by decide) 5 h (fun i hi => (g.part i hi).1)
theorem cr_val (a : Nat → Int) (h : ∀ i, i < 5 → 0 ≤ a i ∧ a i < 1152921504606846976) : Good (crF a) ∧ ∃ k, V 67108864 5 a = V 67108864 5 (crF a) + k * 1361129467683753853853498429727072845819 := by
  obtain ⟨h1, h2, h3, h4⟩ := cr1_val a h
  have n0 := V_nn 67108864 (by decide) 5 a (fun i hi => (h i hi).1)
  obtain ⟨g1, g2, g3, g4⟩ := cr1_val (cr1 a) (fun i hi => by have := h2 i hi; omega)
  have e : crF a = cr1 (cr1 a) := rfl
  rw [h1] at g1 g2 g3
  rw [e]
  have f1 : V 67108864 5 (cr1 (cr1 a)) < 1361129467683753853853498429727072845824 := by
    rw [g1]
    generalize V 67108864 5 a = v at *
    omega
  have f2 : (V 67108864 5 a % 1361129467683753853853498429727072845824 + 5 * (V 67108864 5 a / 1361129467683753853853498429727072845824)) / 1361129467683753853853498429727072845824 ≤ 1 := by
    generalize V 67108864 5 a = v at *
    omega
  refine ⟨⟨fun i hi => ?_, f1⟩, V 67108864 5 a / 1361129467683753853853498429727072845824 + (V 67108864 5 a % 1361129467683753853853498429727072845824 + 5 * (V 67108864 5 a / 1361129467683753853853498429727072845824)) / 1361129467683753853853498429727072845824, ?_⟩
  · have := g2 i hi
    omega
  · rw [g1]
    generalize V 67108864 5 a = v at *
    omega
theorem pls_at (a b : Nat → Int) : ∀ n i, pls a b n i = if i < n then ua (a i) (b i) else a i
  | 0, i => by rw [if_neg (by omega)]; rfl
  | n + 1, i => by
    unfold pls
    by_cases e : i = n
    · subst e
      rw [up_at, pls_at a b i i, if_neg (by omega), if_pos (by omega)]
    · rw [up_ne _ _ _ e, pls_at a b n i]
      by_cases h : i < n
      · rw [if_pos h, if_pos (by omega)]
      · rw [if_neg h, if_neg (by omega)]
theorem pl_val' (a b : Nat → Int) (ha : ∀ i, i < 5 → 0 ≤ a i ∧ a i < 134217728) (hb : ∀ i, i < 5 → 0 ≤ b i ∧ b i < 134217728) : (∀ i, i < 5 → 0 ≤ plF a b i ∧ plF a b i < 268435456) ∧ V 67108864 5 (plF a b) = V 67108864 5 a + V 67108864 5 b := by
  have e : ∀ i, i < 5 → plF a b i = a i + b i := fun i hi => by
    have h1 := ha i hi
    have h2 := hb i hi
    unfold plF
    rw [pls_at, if_pos hi, ua_eq _ _ (by omega) (by omega)]
  refine ⟨fun i hi => ?_, ?_⟩
  · rw [e i hi]
    have h1 := ha i hi
    have h2 := hb i hi
    omega
  · rw [V_congr _ 5 _ (fun i => a i + b i) e, V_add]
theorem tr_val (b : Int) (m : Nat) (x y P : Nat → Int) (n i : Nat) (hm : ∀ j, j < n → i + j < m) (M C : Int) (hM : 0 ≤ M) (hC : C + M < 4611686018427387904) (hP : ∀ k, 0 ≤ P k ∧ P k ≤ C) (hxy : ∀ j, j < n → 0 ≤ x i * y j ∧ x i * y j ≤ M) :
    ∀ j, j ≤ n → (∀ k, 0 ≤ tr P x y i j k ∧ tr P x y i j k ≤ (if k < i + j then C + M else C)) ∧ V b m (tr P x y i j) = V b m P + x i * b ^ i * V b j y
  | 0, _ => by
    refine ⟨fun k => ?_, ?_⟩
    · have := hP k
      show 0 ≤ P k ∧ P k ≤ _
      split <;> omega
    · show V b m P = _
      simp [V]
  | j + 1, h => by
    obtain ⟨h1, h2⟩ := tr_val b m x y P n i hm M C hM hC hP hxy j (by omega)
    have hp := hxy j (by omega)
    have hq := h1 (i + j)
    rw [if_neg (by omega)] at hq
    have e : tr P x y i (j + 1) = upd (tr P x y i j) (i + j) (tr P x y i j (i + j) + x i * y j) := by
      show upd (tr P x y i j) (i + j) (ua (tr P x y i j (i + j)) (um (x i) (y j))) = _
      rw [um_eq _ _ hp.1 (by omega), ua_eq _ _ (by omega) (by omega)]
    rw [e]
    refine ⟨fun k => ?_, ?_⟩
    · by_cases c : k = i + j
      · subst c
        rw [up_at, if_pos (by omega)]
        omega
      · rw [up_ne _ _ _ c]
        have h3 := h1 k
        by_cases d : k < i + j
        · rw [if_pos d] at h3
          rw [if_pos (by omega)]
          exact h3
        · rw [if_neg d] at h3
          rw [if_neg (by omega)]
          exact h3
    · rw [V_upd b m _ _ _ (hm j (by omega)), h2]
      show _ = V b m P + x i * b ^ i * (V b j y + y j * b ^ j)
      rw [Int.pow_add]
      grind
theorem tp_val (b : Int) (m n : Nat) (x y : Nat → Int) (hm : ∀ i j, i < n → j < n → i + j < m) (M : Int) (hM : 0 ≤ M) (hC : (n : Int) * M < 4611686018427387904) (hxy : ∀ i j, i < n → j < n → 0 ≤ x i * y j ∧ x i * y j ≤ M) :
    ∀ i, i ≤ n → (∀ k, 0 ≤ tp n x y i k ∧ tp n x y i k ≤ (i : Int) * M) ∧ V b m (tp n x y i) = V b i x * V b n y
  | 0, _ => by
    refine ⟨fun k => by simp [tp], ?_⟩
    have : ∀ m, V b m (fun _ => 0) = 0 := fun m => by
      induction m with
      | zero => rfl
      | succ m ih => simp [V, ih]
    show V b m (fun _ => 0) = _
    rw [this]
    simp [V]
  | i + 1, h => by
    obtain ⟨h1, h2⟩ := tp_val b m n x y hm M hM hC hxy i (by omega)
    have e : ((i + 1 : Nat) : Int) * M = (i : Int) * M + M := by
      rw [Int.natCast_add, Int.add_mul]
      simp
    have hle : ((i + 1 : Nat) : Int) * M ≤ (n : Int) * M := Int.mul_le_mul_of_nonneg_right (by omega) hM
    obtain ⟨g1, g2⟩ := tr_val b m x y (tp n x y i) n i (fun j hj => hm i j (by omega) hj) M ((i : Int) * M) hM (by omega) h1 (fun j hj => hxy i j (by omega) hj) n (Nat.le_refl _)
    refine ⟨fun k => ?_, ?_⟩
    · have h3 := g1 k
      show 0 ≤ tr (tp n x y i) x y i n k ∧ tr (tp n x y i) x y i n k ≤ _
      rw [e]
      split at h3 <;> omega
    · show V b m (tr (tp n x y i) x y i n) = (V b i x + x i * b ^ i) * V b n y
      rw [g2, h2, Int.add_mul]
theorem tlo_at (P : Nat → Int) : ∀ n k, tlo P n k = if k < n then ua (P k) (um (P (5 + k)) 5) else P k
  | 0, k => by rw [if_neg (by omega)]; rfl
  | n + 1, k => by
    unfold tlo
    by_cases e : k = n
    · subst e
      rw [up_at, tlo_at P k k, if_neg (by omega), if_pos (by omega)]
    · rw [up_ne _ _ _ e, tlo_at P n k]
      by_cases h : k < n
      · rw [if_pos h, if_pos (by omega)]
      · rw [if_neg h, if_neg (by omega)]
/-- The product. -/
theorem tm_val (x y : Nat → Int) (hx : ∀ i, i < 5 → 0 ≤ x i ∧ x i < 268435456) (hy : ∀ i, i < 5 → 0 ≤ y i ∧ y i < 67108864) : Good (tmF x y) ∧ ∃ k, V 67108864 5 x * V 67108864 5 y = V 67108864 5 (tmF x y) + k * 1361129467683753853853498429727072845819 := by
  obtain ⟨h1, h2⟩ := tp_val 67108864 9 5 x y (fun i j hi hj => by omega) 18014398509481984 (by decide) (by decide) (fun i j hi hj => by
    have a := hx i hi
    have c := hy j hj
    refine ⟨Int.mul_nonneg a.1 c.1, ?_⟩
    have := Int.mul_le_mul (show x i ≤ 268435456 by omega) (show y j ≤ 67108864 by omega) c.1 (by decide)
    exact this) 5 (Nat.le_refl _)
  unfold tmF
  generalize tp 5 x y 5 = P at *
  have hP : ∀ k, 0 ≤ P k ∧ P k ≤ 90071992547409920 := fun k => by
    have := h1 k
    omega
  have e : ∀ i, i < 5 → tlo P 4 i = P i + (if i < 4 then 5 * P (5 + i) else 0) := fun i hi => by
    have a := hP i
    have c := hP (5 + i)
    rw [tlo_at]
    by_cases d : i < 4
    · rw [if_pos d, if_pos d, um_eq _ _ (by omega) (by omega), ua_eq _ _ (by omega) (by omega), Int.mul_comm]
    · rw [if_neg d, if_neg d, Int.add_zero]
  obtain ⟨g, k, hk⟩ := cr_val (tlo P 4) (fun i hi => by
    have a := hP i
    have c := hP (5 + i)
    rw [e i hi]
    split <;> omega)
  refine ⟨g, k + V 67108864 4 (fun i => P (5 + i)), ?_⟩
  have f : V 67108864 5 (tlo P 4) = V 67108864 5 P + 5 * V 67108864 4 (fun i => P (5 + i)) := by
    rw [V_congr _ 5 _ (fun i => P i + (if i < 4 then 5 * P (5 + i) else 0)) e, V_add, ← V_mul]
    show V 67108864 5 P + (V 67108864 4 (fun i => if i < 4 then 5 * P (5 + i) else 0) + (if 4 < 4 then 5 * P (5 + 4) else 0) * 67108864 ^ 4) = _
    rw [V_congr _ 4 (fun i => if i < 4 then 5 * P (5 + i) else 0) (fun i => 5 * P (5 + i)) (fun i hi => if_pos hi), if_neg (by decide)]
    omega
  have s := V_split 67108864 5 4 P
  rw [pB5] at s
  rw [← h2]
  have s2 : V 67108864 9 P = V 67108864 5 P + 1361129467683753853853498429727072845824 * V 67108864 4 (fun i => P (5 + i)) := s
  rw [s2]
  generalize V 67108864 4 (fun i => P (5 + i)) = hi at *
  omega
/-- The least. -/
theorem ls_val (a : Nat → Int) (g : Good a) : (∀ i, i < 5 → 0 ≤ lsF a i ∧ lsF a i < 67108864) ∧ V 67108864 5 (lsF a) = V 67108864 5 a % 1361129467683753853853498429727072845819 := by
  have n0 := g.nn
  have n1 := g.lt
  have p0 := g.part 0 (by decide)
  have e1 : mo5 a = upd a 0 (a 0 + 5) := by
    unfold mo5
    rw [ua_eq _ _ (by omega) (by omega)]
  obtain ⟨⟨h1, -⟩, -, h4, h5⟩ := s5_val (mo5 a) (fun i hi => by
    have := g.part i hi
    rw [e1]
    by_cases c : i = 0
    · subst c
      rw [up_at]
      omega
    · rw [up_ne _ _ _ c]
      omega)
  rw [e1, V0 _ _ _ _ (by decide)] at h1
  have e2 : lsF a = s5 (upd a 0 (a 0 + 5 * c5 (mo5 a))) := by
    unfold lsF
    rw [e1]
    generalize c5 (upd a 0 (a 0 + 5)) = q at *
    have : q ≤ 1 := by
      rw [h1]
      omega
    rw [um_eq _ _ (by rw [← e1] at *; omega) (by omega), ua_eq _ _ (by omega) (by omega), Int.mul_comm]
  rw [← e1] at h1
  generalize c5 (mo5 a) = q at *
  have q1 : q ≤ 1 := by
    rw [h1]
    omega
  have q0 : 0 ≤ q := by
    rw [h1]
    omega
  obtain ⟨⟨-, k2⟩, k3, -, -⟩ := s5_val (upd a 0 (a 0 + 5 * q)) (fun i hi => by
    have := g.part i hi
    by_cases c : i = 0
    · subst c
      rw [up_at]
      omega
    · rw [up_ne _ _ _ c]
      omega)
  rw [e2]
  refine ⟨k3, ?_⟩
  rw [k2, V0 _ _ _ _ (by decide)]
  generalize V 67108864 5 a = v at *
  clear k2 k3 e2
  rcases (show q = 0 ∨ q = 1 by omega) with rfl | rfl
  · omega
  · omega

end Go.Proofs.YtenafinbaanicaaGreatDoor.Pol
namespace Go.Proofs.YtenafinbaanicaaGreatDoor.Pol
open Go.RowKit

theorem pw_id : ∀ j, j < 17 → (67108864 : Int) ^ (8 * j / 26) * 2 ^ (8 * j % 26) = 256 ^ j := by decide +kernel
theorem pw_small : ∀ j, j < 17 → (0 : Int) < 2 ^ (8 * j % 26) ∧ (2 : Int) ^ (8 * j % 26) ≤ 33554432 ∧ ((2 ^ (8 * j % 26) : Nat) : Int) = 2 ^ (8 * j % 26) := by decide +kernel
theorem nof_val (p : Nat → Int) : ∀ j, j ≤ 17 → (∀ i, i < j → 0 ≤ p i ∧ p i < 256) → (∀ k, 0 ≤ nof p j k ∧ nof p j k < 8589934592 ∧ nof p j k * 67108864 ^ k < 256 ^ j) ∧ V 67108864 5 (nof p j) = V 256 j p
  | 0, _, _ => by
    refine ⟨fun k => ?_, by simp [nof, V]⟩
    show (0 : Int) ≤ 0 ∧ (0 : Int) < _ ∧ (0 : Int) * _ < 256 ^ 0
    simp
  | j + 1, h, hp => by
    obtain ⟨h1, h2⟩ := nof_val p j (by omega) (fun i hi => hp i (by omega))
    have hj := hp j (by omega)
    have e := pw_id j (by omega)
    obtain ⟨s0, s1, s2⟩ := pw_small j (by omega)
    obtain ⟨a0, a1, a2⟩ := h1 (8 * j / 26)
    have hk : 8 * j / 26 < 5 := by omega
    have B0 : (0 : Int) < 67108864 ^ (8 * j / 26) := Int.pow_pos (by decide)
    have e2 : nof p (j + 1) = upd (nof p j) (8 * j / 26) (uo (nof p j (8 * j / 26)) (sl (cv .u64 (p j)) (8 * j % 26))) := rfl
    generalize 8 * j / 26 = k at *
    generalize 8 * j % 26 = r at *
    generalize hS : (2 : Int) ^ r = S at *
    have lt : nof p j k < S := by
      rw [← e] at a2
      refine Int.lt_of_mul_lt_mul_left (a := 67108864 ^ k) ?_ (Int.le_of_lt B0)
      rw [Int.mul_comm]
      exact a2
    have m0 : 0 ≤ p j * S := Int.mul_nonneg hj.1 (by omega)
    have m1 : p j * S ≤ 255 * S := Int.mul_le_mul_of_nonneg_right (by omega) (by omega)
    have e3 : nof p (j + 1) = upd (nof p j) k (nof p j k + p j * S) := by
      rw [e2, cv64_eq _ hj.1 (by omega), sl_eq _ _ (by rw [hS]; exact m0) (by rw [hS]; omega), hS, ← s2]
      rw [← s2] at lt m0 m1 s1
      rw [uo_add r _ _ a0 lt hj.1 (by omega)]
    rw [e3]
    refine ⟨fun i => ?_, ?_⟩
    · by_cases c : i = k
      · subst c
        rw [up_at]
        refine ⟨by omega, by omega, ?_⟩
        have l : nof p j i + p j * S < 256 * S := by omega
        have l2 := Int.mul_lt_mul_of_pos_right l B0
        rw [Int.pow_succ, ← e]
        have l3 : 256 * S * 67108864 ^ i = 67108864 ^ i * S * 256 := by grind
        rw [← l3]
        exact l2
      · rw [up_ne _ _ _ c]
        obtain ⟨b0, b1, b2⟩ := h1 i
        refine ⟨b0, b1, ?_⟩
        rw [Int.pow_succ]
        have : (0 : Int) < 256 ^ j := Int.pow_pos (by decide)
        omega
    · rw [V_upd _ 5 _ _ _ hk, h2]
      show _ = V 256 j p + p j * 256 ^ j
      rw [← e]
      grind
theorem p256 : (256 : Int) ^ 16 = 340282366920938463463374607431768211456 := by decide
theorem noF_val (p : Nat → Int) (hp : ∀ i, i < 17 → 0 ≤ p i ∧ p i < 256) (h16 : p 16 ≤ 1) : (∀ i, i < 5 → 0 ≤ noF p i ∧ noF p i < 67108864) ∧ V 67108864 5 (noF p) = V 256 17 p := by
  obtain ⟨h1, h2⟩ := nof_val p 17 (Nat.le_refl _) hp
  obtain ⟨⟨-, k2⟩, k3, -, -⟩ := s5_val (nof p 17) (fun i _ => by have := h1 i; omega)
  refine ⟨k3, ?_⟩
  have e : V 67108864 5 (noF p) = V 67108864 5 (nof p 17) % 1361129467683753853853498429727072845824 := k2
  rw [e, h2]
  have n0 := V_nn 256 (by decide) 17 p (fun i hi => (hp i hi).1)
  have n1 := V_lt 256 (by decide) 16 p (fun i hi => (hp i (by omega)).2)
  rw [p256] at n1
  have s : V 256 17 p = V 256 16 p + p 16 * 256 ^ 16 := rfl
  rw [p256] at s
  exact Int.emod_eq_of_lt n0 (by omega)
theorem V_pd (b : Int) (f : Nat → Int) (n : Nat) : ∀ m, n ≤ m → V b m (pd f n) = V b n f
  | 0, h => by
    obtain rfl : n = 0 := by omega
    rfl
  | m + 1, h => by
    by_cases e : n = m + 1
    · subst e
      exact V_congr b _ _ _ fun i hi => if_pos hi
    · show V b m (pd f n) + pd f n m * b ^ m = _
      rw [V_pd b f n m (by omega), show pd f n m = 0 from if_neg (by omega)]
      omega
theorem pd_nn (f : Nat → Int) (n : Nat) (hf : ∀ i, 0 ≤ f i ∧ f i < 256) (i : Nat) : 0 ≤ pd f n i ∧ pd f n i < 256 := by
  unfold pd
  split
  · exact hf i
  · decide
/-- The number of a piece. -/
def qN (f : Nat → Int) (n : Nat) : Int := V 256 n f + 256 ^ n
theorem mk_val (f : Nat → Int) (n : Nat) (hn : n ≤ 16) (hf : ∀ i, 0 ≤ f i ∧ f i < 256) : (∀ i, i < 5 → 0 ≤ noF (mk f n) i ∧ noF (mk f n) i < 67108864) ∧ V 67108864 5 (noF (mk f n)) = qN f n := by
  have hb : ∀ i, 0 ≤ mk f n i ∧ mk f n i < 256 := fun i => by
    unfold mk
    by_cases c : i = n
    · rw [c, up_at]
      decide
    · rw [up_ne _ _ _ c]
      exact pd_nn f n hf i
  have h16 : mk f n 16 ≤ 1 := by
    unfold mk
    by_cases c : 16 = n
    · rw [c, up_at]
      decide
    · rw [up_ne _ _ _ c, show pd f n 16 = 0 from if_neg (by omega)]
      decide
  obtain ⟨h1, h2⟩ := noF_val (mk f n) (fun i _ => hb i) h16
  refine ⟨h1, ?_⟩
  rw [h2]
  unfold mk qN
  rw [V_upd _ 17 _ _ _ (by omega), V_pd _ _ _ 17 (by omega), show pd f n n = 0 from if_neg (by omega)]
  omega
/-- A byte of the number by which is multiplied. -/
def rB (b : Nat → Int) (i : Nat) : Int := if i = 3 ∨ i = 7 ∨ i = 11 ∨ i = 15 then b i % 16 else if i = 4 ∨ i = 8 ∨ i = 12 then b i - b i % 4 else b i
theorem nb8_15 (x : Int) (h0 : 0 ≤ x) (h1 : x < 256) : nb8 x 15 = x % 16 := by
  have h : ∀ n : Nat, n < 256 → nb8 (n : Int) 15 = (n : Int) % 16 := by decide +kernel
  have := h x.toNat (by omega)
  rwa [show ((x.toNat : Nat) : Int) = x by omega] at this
theorem db8_3 (x : Int) (h0 : 0 ≤ x) (h1 : x < 256) : db8 x 3 = x - x % 4 := by
  have h : ∀ n : Nat, n < 256 → db8 (n : Int) 3 = (n : Int) - (n : Int) % 4 := by decide +kernel
  have := h x.toNat (by omega)
  rwa [show ((x.toNat : Nat) : Int) = x by omega] at this
theorem rB_nn (b : Nat → Int) (hb : ∀ i, 0 ≤ b i ∧ b i < 256) (i : Nat) : 0 ≤ rB b i ∧ rB b i < 256 := by
  have := hb i
  unfold rB
  split
  · omega
  · split <;> omega
theorem fc_at (b : Nat → Int) (hb : ∀ i, 0 ≤ b i ∧ b i < 256) (i : Nat) (hi : i < 17) : fc2 (fc1 (pd b 16)) i = pd (rB b) 16 i := by
  have e : ∀ k, k < 16 → pd b 16 k = b k := fun k hk => if_pos hk
  have x15 : ∀ k, k < 16 → nb8 (pd b 16 k) 15 = b k % 16 := fun k hk => by rw [e k hk, nb8_15 _ (hb k).1 (hb k).2]
  have x3 : ∀ k, k < 16 → db8 (pd b 16 k) 3 = b k - b k % 4 := fun k hk => by rw [e k hk, db8_3 _ (hb k).1 (hb k).2]
  have f4 : fc1 (pd b 16) 4 = pd b 16 4 := rfl
  have f8 : fc1 (pd b 16) 8 = pd b 16 8 := rfl
  have f12 : fc1 (pd b 16) 12 = pd b 16 12 := rfl
  have hc : i = 0 ∨ i = 1 ∨ i = 2 ∨ i = 3 ∨ i = 4 ∨ i = 5 ∨ i = 6 ∨ i = 7 ∨ i = 8 ∨ i = 9 ∨ i = 10 ∨ i = 11 ∨ i = 12 ∨ i = 13 ∨ i = 14 ∨ i = 15 ∨ i = 16 := by omega
  rcases hc with rfl | rfl | rfl | rfl | rfl | rfl | rfl | rfl | rfl | rfl | rfl | rfl | rfl | rfl | rfl | rfl | rfl
  · rfl
  · rfl
  · rfl
  · exact x15 3 (by decide)
  · exact (congrArg (fun z => db8 z 3) f4).trans (x3 4 (by decide))
  · rfl
  · rfl
  · exact x15 7 (by decide)
  · exact (congrArg (fun z => db8 z 3) f8).trans (x3 8 (by decide))
  · rfl
  · rfl
  · exact x15 11 (by decide)
  · exact (congrArg (fun z => db8 z 3) f12).trans (x3 12 (by decide))
  · rfl
  · rfl
  · exact x15 15 (by decide)
  · rfl
theorem fc_val (b : Nat → Int) (hb : ∀ i, 0 ≤ b i ∧ b i < 256) : (∀ i, i < 5 → 0 ≤ noF (fc2 (fc1 (pd b 16))) i ∧ noF (fc2 (fc1 (pd b 16))) i < 67108864) ∧ V 67108864 5 (noF (fc2 (fc1 (pd b 16)))) = V 256 16 (rB b) := by
  have e := fc_at b hb
  obtain ⟨h1, h2⟩ := noF_val (fc2 (fc1 (pd b 16))) (fun i hi => by rw [e i hi]; exact pd_nn _ _ (rB_nn b hb) i) (by rw [e 16 (by decide)]; exact (by decide : (0 : Int) ≤ 1))
  refine ⟨h1, ?_⟩
  rw [h2, V_congr 256 17 _ _ e, V_pd _ _ _ 17 (by decide)]
theorem plain_val (b : Nat → Int) (hb : ∀ i, 0 ≤ b i ∧ b i < 256) : (∀ i, i < 5 → 0 ≤ noF (pd b 16) i ∧ noF (pd b 16) i < 67108864) ∧ V 67108864 5 (noF (pd b 16)) = V 256 16 b := by
  obtain ⟨h1, h2⟩ := noF_val (pd b 16) (fun i _ => pd_nn b 16 hb i) (by exact (by decide : (0 : Int) ≤ 1))
  refine ⟨h1, ?_⟩
  rw [h2, V_pd _ _ _ 17 (by decide)]
/-- A digit. -/
def dgt (X : Int) (i : Nat) : Int := X / 256 ^ i % 256
theorem dq (i : Nat) (hi : i < 16) : ∃ Q : Int, (2 : Int) ^ (8 * i % 26) * (256 * Q) = 67108864 ^ 2 := ⟨2 ^ (44 - 8 * i % 26), (by decide +kernel : ∀ i, i < 16 → (2 : Int) ^ (8 * i % 26) * (256 * 2 ^ (44 - 8 * i % 26)) = 67108864 ^ 2) i hi⟩
theorem dm (i : Nat) (hi : i < 16) : ∃ Q : Int, (256 : Int) ^ i * (256 * Q) = 1361129467683753853853498429727072845824 := ⟨2 ^ (122 - 8 * i), (by decide +kernel : ∀ i, i < 16 → (256 : Int) ^ i * (256 * 2 ^ (122 - 8 * i)) = 1361129467683753853853498429727072845824) i hi⟩
theorem dgt_add (X Y D Q : Int) (hD : 0 < D) : (X + D * (256 * Q) * Y) / D % 256 = X / D % 256 := by
  rw [Int.mul_assoc, Int.add_mul_ediv_left _ _ (by omega), Int.mul_assoc, Int.add_mul_emod_self_left]
theorem dgt_mod (X : Int) (i : Nat) (hi : i < 16) : dgt (X % 1361129467683753853853498429727072845824) i = dgt X i := by
  obtain ⟨Q, hQ⟩ := dm i hi
  have e := Int.emod_add_mul_ediv X 1361129467683753853853498429727072845824
  have h := dgt_add (X % 1361129467683753853853498429727072845824) (X / 1361129467683753853853498429727072845824) (256 ^ i) Q (Int.pow_pos (by decide))
  rw [hQ, e] at h
  exact h.symm
theorem tb_val (a : Nat → Int) (ha : ∀ i, i < 5 → 0 ≤ a i ∧ a i < 67108864) (i : Nat) (hi : i < 16) : tb a i = dgt (V 67108864 5 a) i := by
  have h6 : ∀ k, 0 ≤ p6 a k ∧ p6 a k < 67108864 := fun k => by
    unfold p6
    split
    · rename_i h
      exact ha k h
    · decide
  have e7 : V 67108864 5 a = V 67108864 7 (p6 a) := by
    have : V 67108864 7 (p6 a) = V 67108864 5 (p6 a) + p6 a 5 * 67108864 ^ 5 + p6 a 6 * 67108864 ^ 6 := rfl
    rw [this, show p6 a 5 = 0 from rfl, show p6 a 6 = 0 from rfl, V_congr _ 5 a (p6 a) (fun i hi => (if_pos hi).symm)]
    omega
  have hk : 8 * i / 26 ≤ 4 := by omega
  have ep := pw_id i (by omega)
  obtain ⟨s0, s1, s2⟩ := pw_small i (by omega)
  obtain ⟨Q, hQ⟩ := dq i hi
  unfold tb dgt
  rw [e7, ← ep]
  generalize 8 * i / 26 = k at *
  generalize 8 * i % 26 = r at *
  have x0 := h6 k
  have x1 := h6 (k + 1)
  have t1 : sl (p6 a (k + 1)) 26 = p6 a (k + 1) * 67108864 := sl_eq _ 26 (by omega) (by omega)
  have t2 : uo (p6 a k) (p6 a (k + 1) * 67108864) = p6 a k + p6 a (k + 1) * 67108864 := uo_add 26 _ _ x0.1 x0.2 x1.1 (by omega)
  rw [cv8_eq, t1, t2, sr_eq]
  have sp := V_split 67108864 k (2 + (5 - k)) (p6 a)
  rw [show k + (2 + (5 - k)) = 7 by omega] at sp
  have sp2 := V_split 67108864 2 (5 - k) (fun i => p6 a (k + i))
  have sp3 : V 67108864 2 (fun i => p6 a (k + i)) = p6 a k + p6 a (k + 1) * 67108864 := by
    show (0 + p6 a (k + 0) * 67108864 ^ 0) + p6 a (k + 1) * 67108864 ^ 1 = _
    simp
  rw [sp3] at sp2
  rw [sp2] at sp
  have l0 := V_nn 67108864 (by decide) k (p6 a) (fun i _ => (h6 i).1)
  have l1 := V_lt 67108864 (by decide) k (p6 a) (fun i _ => (h6 i).2)
  have B0 : (0 : Int) < 67108864 ^ k := Int.pow_pos (by decide)
  rw [sp, ← Int.ediv_ediv_of_nonneg (Int.le_of_lt B0), Int.add_mul_ediv_left _ _ (by omega), Int.ediv_eq_zero_of_lt l0 l1, Int.zero_add, ← hQ, dgt_add _ _ _ _ s0]
theorem tx_val (a : Nat → Int) (ha : ∀ i, i < 5 → 0 ≤ a i ∧ a i < 4611686018427387904) : txS a = bs ((List.range 16).map (dgt (V 67108864 5 a))) := by
  obtain ⟨⟨-, k2⟩, k3, -, -⟩ := s5_val a ha
  unfold txS
  congr 1
  refine List.map_congr_left fun i hi => ?_
  have hi' := List.mem_range.1 hi
  rw [tb_val _ k3 i hi', k2, dgt_mod _ i hi']
/-- The number behind some pieces, as the document tells it. -/
def hN (r : Int) (q : Nat → Int) : Nat → Int
  | 0 => 0
  | j + 1 => ((hN r q j + q j) * r) % 1361129467683753853853498429727072845819
def qS (s : ByteArray) (j : Nat) : Int := qN (fun i => bt s (16 * j + i)) (min 16 (s.size - 16 * j))
/-- The tag, as the document tells it. -/
def tagZ (key s : ByteArray) : Int := hN (V 256 16 (rB (bt key))) (qS s) ((s.size + 15) / 16) + V 256 16 (fun i => bt key (16 + i))
def tagS (key s : ByteArray) : ByteArray := bs ((List.range 16).map (dgt (tagZ key s)))
theorem hN_step {r : Int} {q : Nat → Int} {j : Nat} {A B k : Int} (h : A % 1361129467683753853853498429727072845819 = hN r q j) (e : (A + q j) * r = B + k * 1361129467683753853853498429727072845819) : B % 1361129467683753853853498429727072845819 = hN r q (j + 1) := by
  have h1 : B % 1361129467683753853853498429727072845819 = ((A + q j) * r) % 1361129467683753853853498429727072845819 := by
    rw [e, Int.add_mul_emod_self_right]
  rw [h1]
  show _ = ((hN r q j + q j) * r) % 1361129467683753853853498429727072845819
  have e2 : (A + q j) * r = (A % 1361129467683753853853498429727072845819 + q j) * r + 1361129467683753853853498429727072845819 * (A / 1361129467683753853853498429727072845819 * r) := by
    have e3 := Int.emod_add_mul_ediv A 1361129467683753853853498429727072845819
    generalize A % 1361129467683753853853498429727072845819 = x at *
    generalize A / 1361129467683753853853498429727072845819 = y at *
    rw [← e3]
    grind
  rw [← h, e2, Int.add_mul_emod_self_left]
theorem hN_lt (r : Int) (q : Nat → Int) (j : Nat) : 0 ≤ hN r q j ∧ hN r q j < 1361129467683753853853498429727072845819 := by
  cases j with
  | zero => exact ⟨by simp [hN], by simp [hN]⟩
  | succ j => exact ⟨Int.emod_nonneg _ (by decide), Int.emod_lt_of_pos _ (by decide)⟩
theorem good0 : Good (fun _ => 0) := ⟨fun _ _ => by decide, by decide⟩
theorem sm_val (s : ByteArray) (r : Nat → Int) (hr : ∀ i, i < 5 → 0 ≤ r i ∧ r i < 67108864) : ∀ j, Good (sm s r j) ∧ V 67108864 5 (sm s r j) % 1361129467683753853853498429727072845819 = hN (V 67108864 5 r) (qS s) j
  | 0 => ⟨good0, (by decide : V 67108864 5 (fun _ => 0) % 1361129467683753853853498429727072845819 = 0)⟩
  | j + 1 => by
    obtain ⟨g, h⟩ := sm_val s r hr j
    obtain ⟨m1, m2⟩ := mk_val (fun i => bt s (16 * j + i)) (min 16 (s.size - 16 * j)) (Nat.min_le_left _ _) (fun i => bt_nn s _)
    obtain ⟨p1, p2⟩ := pl_val' (sm s r j) (noF (mk (fun i => bt s (16 * j + i)) (min 16 (s.size - 16 * j)))) (fun i hi => by have := g.part i hi; omega) (fun i hi => by have := m1 i hi; omega)
    obtain ⟨g2, k, hk⟩ := tm_val _ r p1 hr
    refine ⟨g2, hN_step h (k := k) ?_⟩
    rw [p2, m2] at hk
    exact hk
theorem bt_sub (s : ByteArray) (p q j : Nat) (hj : j < q - p) (hq : q ≤ s.size) : bt (s.extract p q) j = bt s (p + j) := by
  unfold bt
  rw [ByteArray.data_extract, Array.getElem?_extract, if_pos (by show j < min q s.data.size - p; have : s.size = s.data.size := rfl; omega)]
theorem rB_congr (b c : Nat → Int) (h : ∀ i, i < 16 → b i = c i) (i : Nat) (hi : i < 16) : rB b i = rB c i := by
  unfold rB
  rw [h i hi]
/-- The program's tag. -/
theorem tg_val (key s : ByteArray) (hk : key.size = 32) : tgS key s = tagS key s := by
  obtain ⟨r1, r2⟩ := fc_val (bt (key.extract 0 16)) (bt_nn _)
  obtain ⟨l1, l2⟩ := plain_val (bt (key.extract 16 key.size)) (bt_nn _)
  have er : V 67108864 5 (rF key) = V 256 16 (rB (bt key)) := by
    refine r2.trans (V_congr _ _ _ _ (rB_congr _ _ fun i hi => ?_))
    rw [bt_sub key 0 16 i (by omega) (by omega), Nat.zero_add]
  have el : V 67108864 5 (lF key) = V 256 16 (fun i => bt key (16 + i)) := by
    refine l2.trans (V_congr _ _ _ _ fun i hi => ?_)
    rw [bt_sub key 16 key.size i (by omega) (by omega)]
  obtain ⟨g, h⟩ := sm_val s (rF key) r1 ((s.size + 15) / 16)
  obtain ⟨v1, v2⟩ := ls_val _ g
  obtain ⟨p1, p2⟩ := pl_val' (lsF (sm s (rF key) ((s.size + 15) / 16))) (lF key) (fun i hi => by have := v1 i hi; omega) (fun i hi => by have : 0 ≤ lF key i ∧ lF key i < 67108864 := l1 i hi; omega)
  unfold tgS tagS tagZ
  rw [tx_val _ (fun i hi => by have := p1 i hi; omega), p2, v2, h, er, el]

end Go.Proofs.YtenafinbaanicaaGreatDoor.Pol
namespace Go.Proofs.YtenafinbaanicaaGreatDoor.Pol
open Go.RowKit

theorem q18 : (256 : Int) ^ 18 = 22300745198530623141535718272648361505980416 := by decide
theorem q17 : (256 : Int) ^ 17 = 87112285931760246646623899502532662132736 := by decide
/-- What stands ahead of the sixteenth part. -/
theorem V18 (s : Nat → Int) : V 256 18 s = V 256 16 s + s 16 * 340282366920938463463374607431768211456 + s 17 * 87112285931760246646623899502532662132736 := by
  have : V 256 18 s = V 256 16 s + s 16 * 256 ^ 16 + s 17 * 256 ^ 17 := rfl
  rw [this, p256, q17]
/-- One round: what is at 2^130 or above comes round by 5. -/
theorem d1_val (a : Nat → Int) (h : ∀ i, i < 18 → 0 ≤ a i ∧ a i < 1099511627776) : V 256 18 (d1 a) = V 256 18 a % 1361129467683753853853498429727072845824 + 5 * (V 256 18 a / 1361129467683753853853498429727072845824) ∧ (∀ i, i < 18 → 0 ≤ d1 a i ∧ d1 a i < 256 + 5 * (V 256 18 a / 1361129467683753853853498429727072845824)) ∧ 0 ≤ V 256 18 a / 1361129467683753853853498429727072845824 ∧ V 256 18 a / 1361129467683753853853498429727072845824 < 144115188075855872 := by
  have C := chain8 a 18 (fun i hi => by have := h i hi; omega)
  have D := C.dig
  have s16 := D 16 (by decide)
  have s17 := D 17 (by decide)
  have s0 := D 0 (by decide)
  have n0 := V_nn 256 (by decide) 18 a (fun i hi => (h i hi).1)
  have n1 := V_le 256 (by decide) 4311810306 (by decide) 18 a (fun i hi => by have := h i hi; omega)
  rw [q18] at n1
  have c0 := C.c0
  have hv := C.val
  rw [q18, V18] at hv
  have l0 := V_nn 256 (by decide) 16 (st 255 8 a 18) (fun i hi => (D i (by omega)).1)
  have l1 := V_lt 256 (by decide) 16 (st 255 8 a 18) (fun i hi => (D i (by omega)).2)
  rw [p256] at l1
  have et : dtop a = st 255 8 a 18 16 / 4 + st 255 8 a 18 17 * 64 + cy 8 a 18 * 16384 := by
    have cb : cy 8 a 18 < 281474976710656 := by omega
    have t1 : sl (st 255 8 a 18 17) 6 = st 255 8 a 18 17 * 64 := sl_eq _ 6 (by omega) (by omega)
    have t2 : uo (st 255 8 a 18 16 / 4) (st 255 8 a 18 17 * 64) = st 255 8 a 18 16 / 4 + st 255 8 a 18 17 * 64 := uo_add 6 _ _ (by omega) (by show _ < (64 : Int); omega) (by omega) (by show _ + _ * (64 : Int) < _; omega)
    have t3 : sl (cy 8 a 18) 14 = cy 8 a 18 * 16384 := sl_eq _ 14 (by omega) (by omega)
    show uo (uo (sr (st 255 8 a 18 16) 2) (sl (st 255 8 a 18 17) 6)) (sl (cy 8 a 18) 14) = _
    rw [sr2, t1, t2, t3]
    exact uo_add 14 _ _ (by omega) (by show _ < (16384 : Int); omega) (by omega) (by show _ + _ * (16384 : Int) < _; omega)
  have eq : dtop a = V 256 18 a / 1361129467683753853853498429727072845824 := by
    rw [et, ← hv]
    omega
  have q0 : 0 ≤ V 256 18 a / 1361129467683753853853498429727072845824 := by omega
  have q1 : V 256 18 a / 1361129467683753853853498429727072845824 < 144115188075855872 := by omega
  have e0 : d0 a = upd (upd (st 255 8 a 18) 16 (st 255 8 a 18 16 % 4)) 17 0 := by
    show upd (upd (st 255 8 a 18) 16 (un (st 255 8 a 18 16) 3)) 17 0 = _
    rw [un2 _ s16.1 (by omega)]
  have e00 : d0 a 0 = st 255 8 a 18 0 := by
    rw [e0, up_ne _ _ _ (by decide), up_ne _ _ _ (by decide)]
  have e1 : d1 a = upd (d0 a) 0 (st 255 8 a 18 0 + 5 * (V 256 18 a / 1361129467683753853853498429727072845824)) := by
    unfold d1
    rw [eq, e00]
    generalize V 256 18 a / 1361129467683753853853498429727072845824 = q at *
    rw [um_eq 5 q (by omega) (by omega), ua_eq _ _ (by omega) (by omega)]
  refine ⟨?_, ?_, q0, q1⟩
  · rw [e1, V0 _ _ _ _ (by decide), e00, e0, V_upd _ 18 _ _ _ (by decide), V_upd _ 18 _ _ _ (by decide), up_ne _ _ _ (by decide), V18, p256, q17, ← hv]
    generalize st 255 8 a 18 16 = x at *
    generalize st 255 8 a 18 17 = y at *
    generalize cy 8 a 18 = z at *
    generalize V 256 16 (st 255 8 a 18) = l at *
    omega
  · intro i hi
    have d := D i hi
    rw [e1]
    by_cases c : i = 0
    · subst c
      rw [up_at]
      omega
    · rw [up_ne _ _ _ c, e0]
      by_cases c2 : i = 17
      · subst c2
        rw [up_at]
        omega
      · rw [up_ne _ _ _ c2]
        by_cases c3 : i = 16
        · subst c3
          rw [up_at]
          omega
        · rw [up_ne _ _ _ c3]
          omega
/-- Parts of the document's number. -/
structure DGood (h : Nat → Int) : Prop where
  part : ∀ i, i < 18 → 0 ≤ h i ∧ h i < 256
  lt : V 256 18 h < 1361129467683753853853498429727072845824
theorem DGood.nn {h : Nat → Int} (g : DGood h) : 0 ≤ V 256 18 h := V_nn _ (by decide) 18 h (fun i hi => (g.part i hi).1)
theorem dc_val (a : Nat → Int) (h : ∀ i, i < 18 → 0 ≤ a i ∧ a i < 4096) : DGood (dcF a) ∧ ∃ k, V 256 18 a = V 256 18 (dcF a) + k * 1361129467683753853853498429727072845819 := by
  have n0 := V_nn 256 (by decide) 18 a (fun i hi => (h i hi).1)
  have n1 := V_le 256 (by decide) 17 (by decide) 18 a (fun i hi => by have := h i hi; omega)
  rw [q18] at n1
  obtain ⟨a1, a2, a3, a4⟩ := d1_val a (fun i hi => by have := h i hi; omega)
  have q1 : V 256 18 a / 1361129467683753853853498429727072845824 < 1048576 := by omega
  obtain ⟨b1, b2, b3, b4⟩ := d1_val (d1 a) (fun i hi => by have := a2 i hi; omega)
  rw [a1] at b1 b2 b3
  have q2 : (V 256 18 a % 1361129467683753853853498429727072845824 + 5 * (V 256 18 a / 1361129467683753853853498429727072845824)) / 1361129467683753853853498429727072845824 ≤ 1 := by
    generalize V 256 18 a = v at *
    omega
  obtain ⟨c1, c2, c3, c4⟩ := d1_val (d1 (d1 a)) (fun i hi => by have := b2 i hi; omega)
  have l2 : V 256 18 (d1 (d1 a)) < 1361129467683753853853498429727072845824 := by
    rw [b1]
    generalize V 256 18 a = v at *
    omega
  have n2 : 0 ≤ V 256 18 (d1 (d1 a)) := V_nn 256 (by decide) 18 _ (fun i hi => (b2 i hi).1)
  have e3 : V 256 18 (d1 (d1 (d1 a))) = V 256 18 (d1 (d1 a)) := by
    rw [c1]
    omega
  have C := chain8 (d1 (d1 (d1 a))) 18 (fun i hi => by have := c2 i hi; omega)
  have hc := (C.cut (by decide)).2
  rw [q18, e3, Int.emod_eq_of_lt n2 (by omega)] at hc
  have e4 : V 256 18 (dcF a) = V 256 18 (d1 (d1 a)) := hc
  refine ⟨⟨C.dig, by rw [e4]; exact l2⟩, V 256 18 a / 1361129467683753853853498429727072845824 + (V 256 18 a % 1361129467683753853853498429727072845824 + 5 * (V 256 18 a / 1361129467683753853853498429727072845824)) / 1361129467683753853853498429727072845824, ?_⟩
  rw [e4, b1]
  generalize V 256 18 a = v at *
  omega
theorem dlo_at (T : Nat → Int) : ∀ n k, dlo T n k = if k < n then T k else 0
  | 0, k => by rw [if_neg (by omega)]; rfl
  | n + 1, k => by
    unfold dlo
    by_cases e : k = n
    · subst e
      rw [up_at, if_pos (by omega)]
    · rw [up_ne _ _ _ e, dlo_at T n k]
      by_cases h : k < n
      · rw [if_pos h, if_pos (by omega)]
      · rw [if_neg h, if_neg (by omega)]
theorem dhi_at (T : Nat → Int) : ∀ n k, dhi T n k = if k < n then uo (sr (T (16 + k)) 2) (un (sl (T (17 + k)) 6) 255) else 0
  | 0, k => by rw [if_neg (by omega)]; rfl
  | n + 1, k => by
    unfold dhi
    by_cases e : k = n
    · subst e
      rw [up_at, if_pos (by omega)]
    · rw [up_ne _ _ _ e, dhi_at T n k]
      by_cases h : k < n
      · rw [if_pos h, if_pos (by omega)]
      · rw [if_neg h, if_neg (by omega)]
theorem hi_val (x y : Int) (hx : 0 ≤ x ∧ x < 256) (hy : 0 ≤ y ∧ y < 256) : uo (sr x 2) (un (sl y 6) 255) = x / 4 + (y % 4) * 64 := by
  have t1 : sl y 6 = y * 64 := sl_eq _ 6 (by omega) (by omega)
  rw [sr2, t1, un8 _ (by omega) (by omega), show y * 64 % 256 = (y % 4) * 64 by omega]
  exact uo_add 6 _ _ (by omega) (by show _ < (64 : Int); omega) (by omega) (by show _ + _ * (64 : Int) < _; omega)
/-- The digits above bit 130. -/
theorem hi_sum (T : Nat → Int) : ∀ n, 4 * V 256 n (fun k => T (16 + k) / 4 + (T (17 + k) % 4) * 64) = V 256 n (fun k => T (16 + k)) - T 16 % 4 + 256 ^ n * (T (16 + n) % 4)
  | 0 => by
    simp [V]
    omega
  | n + 1 => by
    have ih := hi_sum T n
    unfold V
    simp only
    rw [Int.mul_add, ih, Int.pow_succ, show 16 + (n + 1) = 17 + n by omega]
    have e := Int.emod_add_mul_ediv (T (16 + n)) 4
    generalize T (16 + n) % 4 = r at *
    generalize T (16 + n) / 4 = q at *
    rw [← e]
    grind
theorem dl3_at (T : Nat → Int) : ∀ n k, dl3 T n k = if k < n then ua (dl2 T k) (um 5 (dhi T 17 k)) else dl2 T k
  | 0, k => by rw [if_neg (by omega)]; rfl
  | n + 1, k => by
    unfold dl3
    by_cases e : k = n
    · subst e
      rw [up_at, dl3_at T k k, if_neg (by omega), if_pos (by omega)]
    · rw [up_ne _ _ _ e, dl3_at T n k]
      by_cases h : k < n
      · rw [if_pos h, if_pos (by omega)]
      · rw [if_neg h, if_neg (by omega)]
/-- The document's product. -/
theorem dt_val (x y : Nat → Int) (gx : DGood x) (gy : DGood y) : DGood (dtF x y) ∧ ∃ k, V 256 18 x * V 256 18 y = V 256 18 (dtF x y) + k * 1361129467683753853853498429727072845819 := by
  obtain ⟨h1, h2⟩ := tp_val 256 36 18 x y (fun i j hi hj => by omega) 65536 (by decide) (by decide) (fun i j hi hj => by
    have a := gx.part i hi
    have c := gy.part j hj
    exact ⟨Int.mul_nonneg a.1 c.1, Int.mul_le_mul (show x i ≤ 256 by omega) (show y j ≤ 256 by omega) c.1 (by decide)⟩) 18 (Nat.le_refl _)
  have C := chain8 (tp 18 x y 18) 36 (fun i _ => by have := h1 i; omega)
  have D := C.dig
  have w0 : 0 ≤ V 256 18 x * V 256 18 y := Int.mul_nonneg gx.nn gy.nn
  have w1 : V 256 18 x * V 256 18 y ≤ 1361129467683753853853498429727072845824 * 1361129467683753853853498429727072845824 := Int.mul_le_mul (Int.le_of_lt gx.lt) (Int.le_of_lt gy.lt) gy.nn (by decide)
  have q33 : (256 : Int) ^ 33 = 1361129467683753853853498429727072845824 * 1361129467683753853853498429727072845824 * 16 := by decide
  have q36 : (256 : Int) ^ 36 = 1361129467683753853853498429727072845824 * 1361129467683753853853498429727072845824 * 268435456 := by decide
  have hc := (C.cut (by decide)).2
  rw [h2, q36, Int.emod_eq_of_lt w0 (by omega)] at hc
  have hT : V 256 36 (dT x y) = V 256 18 x * V 256 18 y := hc
  have hd : ∀ i, i < 36 → 0 ≤ dT x y i ∧ dT x y i < 256 := D
  clear hc D C h1 h2
  unfold dtF
  rw [← hT]
  generalize dT x y = T at *
  have s1 := V_split 256 33 3 T
  have s1' : V 256 36 T = V 256 33 T + 256 ^ 33 * V 256 3 (fun i => T (33 + i)) := s1
  have z0 := V_nn 256 (by decide) 3 (fun i => T (33 + i)) (fun i hi => (hd (33 + i) (by omega)).1)
  have z1 := V_nn 256 (by decide) 33 T (fun i hi => (hd i (by omega)).1)
  have z2 : V 256 3 (fun i => T (33 + i)) = 0 := by
    rw [q33] at s1'
    omega
  have z3 : T 33 = 0 := by
    have e : V 256 3 (fun i => T (33 + i)) = 0 + T 33 * 256 ^ 0 + T 34 * 256 ^ 1 + T 35 * 256 ^ 2 := rfl
    have a := hd 33 (by decide)
    have b := hd 34 (by decide)
    have c := hd 35 (by decide)
    rw [z2] at e
    simp at e
    omega
  rw [z2, Int.mul_zero, Int.add_zero] at s1'
  have s2 := V_split 256 16 17 T
  have s2' : V 256 33 T = V 256 16 T + 256 ^ 16 * V 256 17 (fun i => T (16 + i)) := s2
  have hs := hi_sum T 17
  rw [show T (16 + 17) = 0 from z3] at hs
  have t16 := hd 16 (by decide)
  have ehi : ∀ k, k < 17 → dhi T 17 k = T (16 + k) / 4 + (T (17 + k) % 4) * 64 := fun k hk => by
    rw [dhi_at, if_pos hk, hi_val _ _ (hd (16 + k) (by omega)) (hd (17 + k) (by omega))]
  have hhi : ∀ k, k < 18 → 0 ≤ dhi T 17 k ∧ dhi T 17 k < 256 := fun k hk => by
    by_cases c : k < 17
    · have a := hd (16 + k) (by omega)
      rw [ehi k c]
      omega
    · rw [dhi_at, if_neg c]
      decide
  have hlo : ∀ k, k < 18 → 0 ≤ dl2 T k ∧ dl2 T k < 256 := fun k hk => by
    unfold dl2
    by_cases c : k = 16
    · subst c
      rw [up_at, dlo_at, if_pos (by decide), un2 _ t16.1 (by omega)]
      omega
    · rw [up_ne _ _ _ c, dlo_at]
      split
      · exact hd k (by omega)
      · decide
  have e3 : ∀ k, k < 18 → dl3 T 18 k = dl2 T k + 5 * dhi T 17 k := fun k hk => by
    have a := hlo k hk
    have b := hhi k hk
    rw [dl3_at, if_pos hk, um_eq _ _ (by omega) (by omega), ua_eq _ _ (by omega) (by omega)]
  obtain ⟨g, k, hk⟩ := dc_val (dl3 T 18) (fun i hi => by
    have a := hlo i hi
    have b := hhi i hi
    rw [e3 i hi]
    omega)
  refine ⟨g, k + V 256 17 (fun k => T (16 + k) / 4 + (T (17 + k) % 4) * 64), ?_⟩
  have f1 : V 256 18 (dhi T 17) = V 256 17 (fun k => T (16 + k) / 4 + (T (17 + k) % 4) * 64) := by
    have : V 256 18 (dhi T 17) = V 256 17 (dhi T 17) + dhi T 17 17 * 256 ^ 17 := rfl
    rw [this, V_congr 256 17 _ _ ehi, dhi_at, if_neg (by decide)]
    omega
  have f2 : V 256 18 (dl2 T) = V 256 16 T + (T 16 % 4) * 340282366920938463463374607431768211456 := by
    unfold dl2
    rw [V_upd _ 18 _ _ _ (by decide), p256, V18, V_congr 256 16 (dlo T 17) T (fun i hi => by rw [dlo_at, if_pos (by omega)]), dlo_at, dlo_at, if_pos (by decide), if_neg (by decide), un2 _ t16.1 (by omega)]
    omega
  have f3 : V 256 18 (dl3 T 18) = V 256 18 (dl2 T) + 5 * V 256 18 (dhi T 17) := by
    rw [V_congr 256 18 _ (fun k => dl2 T k + 5 * dhi T 17 k) e3, V_add, V_mul]
  rw [p256] at s2'
  rw [f2, f1, hk] at f3
  rw [s1', s2']
  generalize V 256 17 (fun i => T (16 + i)) = u at *
  generalize V 256 17 (fun k => T (16 + k) / 4 + (T (17 + k) % 4) * 64) = z at *
  omega
/-- The document's number at the end. -/
theorem dw_val (a : Nat → Int) (g : DGood a) : (∀ i, i < 18 → 0 ≤ dwF a i ∧ dwF a i < 256) ∧ V 256 18 (dwF a) = V 256 18 a % 1361129467683753853853498429727072845819 := by
  obtain ⟨gc, k, hk⟩ := dc_val a (fun i hi => by have := g.part i hi; omega)
  have n0 := gc.nn
  have n1 := gc.lt
  have p0 := gc.part 0 (by decide)
  have e1 : dg a = upd (dcF a) 0 (dcF a 0 + 5) := by
    unfold dg
    rw [ua_eq _ _ (by omega) (by omega)]
  have vg : V 256 18 (dg a) = V 256 18 (dcF a) + 5 := by
    rw [e1, V0 _ _ _ _ (by decide)]
    omega
  have C := chain8 (dg a) 18 (fun i hi => by
    have := gc.part i hi
    rw [e1]
    by_cases c : i = 0
    · subst c
      rw [up_at]
      omega
    · rw [up_ne _ _ _ c]
      omega)
  have hc := (C.cut (by decide)).2
  rw [q18, vg, Int.emod_eq_of_lt (by omega) (by omega)] at hc
  have hG : V 256 18 (dG a) = V 256 18 (dcF a) + 5 := hc
  have D : ∀ i, i < 18 → 0 ≤ dG a i ∧ dG a i < 256 := C.dig
  have s16 := D 16 (by decide)
  have s17 := D 17 (by decide)
  have l0 := V_nn 256 (by decide) 16 (dG a) (fun i hi => (D i (by omega)).1)
  have l1 := V_lt 256 (by decide) 16 (dG a) (fun i hi => (D i (by omega)).2)
  rw [p256] at l1
  have hv := V18 (dG a)
  rw [hG] at hv
  have em : V 256 18 a % 1361129467683753853853498429727072845819 = V 256 18 (dcF a) % 1361129467683753853853498429727072845819 := by
    rw [hk, Int.add_mul_emod_self_right]
  rw [em]
  unfold dwF
  by_cases c : 4 ≤ dG a 16
  · rw [if_pos c, un2 _ s16.1 (by omega)]
    have e4 : dG a 16 = 4 := by omega
    refine ⟨fun i hi => ?_, ?_⟩
    · by_cases c2 : i = 16
      · subst c2
        rw [up_at]
        omega
      · rw [up_ne _ _ _ c2]
        exact D i hi
    · rw [V_upd _ 18 _ _ _ (by decide), hG, e4, p256]
      omega
  · rw [if_neg c]
    refine ⟨gc.part, ?_⟩
    rw [Int.emod_eq_of_lt n0 (by omega)]
theorem rk_at (key : ByteArray) : ∀ n i, rk key n i = if i < n then bt key i else 0
  | 0, i => by rw [if_neg (by omega)]; rfl
  | n + 1, i => by
    have := bt_nn key n
    unfold rk
    by_cases e : i = n
    · subst e
      rw [up_at, if_pos (by omega), cv64_eq _ this.1 (by omega)]
    · rw [up_ne _ _ _ e, rk_at key n i]
      by_cases h : i < n
      · rw [if_pos h, if_pos (by omega)]
      · rw [if_neg h, if_neg (by omega)]
theorem un15 (x : Int) (h : 0 ≤ x ∧ x < 256) : un x 15 = x % 16 := un4 x h.1 (by omega)
theorem un252 (x : Int) (h0 : 0 ≤ x ∧ x < 256) : un x 252 = x - x % 4 := by
  have h : ∀ n : Nat, n < 256 → un (n : Int) 252 = (n : Int) - (n : Int) % 4 := by decide +kernel
  have := h x.toNat (by omega)
  rwa [show ((x.toNat : Nat) : Int) = x by omega] at this
theorem dr_at (key : ByteArray) (i : Nat) (hi : i < 18) : drF key i = pd (rB (bt key)) 16 i := by
  have hb := bt_nn key
  have e : ∀ k, k < 16 → rk key 16 k = bt key k := fun k hk => by rw [rk_at, if_pos hk]
  have e2 : ∀ k, ¬ k < 16 → rk key 16 k = 0 := fun k hk => by rw [rk_at, if_neg hk]
  have x15 : ∀ k, k < 16 → un (rk key 16 k) 15 = bt key k % 16 := fun k hk => by rw [e k hk, un15 _ (hb k)]
  have x3 : ∀ k, k < 16 → un (rk key 16 k) 252 = bt key k - bt key k % 4 := fun k hk => by rw [e k hk, un252 _ (hb k)]
  unfold drF dm2 dm1
  generalize rk key 16 = f at *
  have hc : i = 0 ∨ i = 1 ∨ i = 2 ∨ i = 3 ∨ i = 4 ∨ i = 5 ∨ i = 6 ∨ i = 7 ∨ i = 8 ∨ i = 9 ∨ i = 10 ∨ i = 11 ∨ i = 12 ∨ i = 13 ∨ i = 14 ∨ i = 15 ∨ i = 16 ∨ i = 17 := by omega
  rcases hc with rfl | rfl | rfl | rfl | rfl | rfl | rfl | rfl | rfl | rfl | rfl | rfl | rfl | rfl | rfl | rfl | rfl | rfl
  · exact e 0 (by decide)
  · exact e 1 (by decide)
  · exact e 2 (by decide)
  · exact x15 3 (by decide)
  · exact x3 4 (by decide)
  · exact e 5 (by decide)
  · exact e 6 (by decide)
  · exact x15 7 (by decide)
  · exact x3 8 (by decide)
  · exact e 9 (by decide)
  · exact e 10 (by decide)
  · exact x15 11 (by decide)
  · exact x3 12 (by decide)
  · exact e 13 (by decide)
  · exact e 14 (by decide)
  · exact x15 15 (by decide)
  · exact e2 16 (by decide)
  · exact e2 17 (by decide)
theorem dr_val (key : ByteArray) : DGood (drF key) ∧ V 256 18 (drF key) = V 256 16 (rB (bt key)) := by
  have e := dr_at key
  have h : V 256 18 (drF key) = V 256 16 (rB (bt key)) := by rw [V_congr 256 18 _ _ e, V_pd _ _ _ 18 (by decide)]
  have l1 := V_lt 256 (by decide) 16 (rB (bt key)) (fun i _ => (rB_nn _ (bt_nn key) i).2)
  rw [p256] at l1
  exact ⟨⟨fun i hi => by rw [e i hi]; exact pd_nn _ _ (rB_nn _ (bt_nn key)) i, by rw [h]; omega⟩, h⟩
theorem dpa_at (h : Nat → Int) (p : ByteArray) : ∀ n i, dpa h p n i = if i < n then ua (h i) (cv .u64 (bt p i)) else h i
  | 0, i => by rw [if_neg (by omega)]; rfl
  | n + 1, i => by
    unfold dpa
    by_cases e : i = n
    · subst e
      rw [up_at, dpa_at h p i i, if_neg (by omega), if_pos (by omega)]
    · rw [up_ne _ _ _ e, dpa_at h p n i]
      by_cases c : i < n
      · rw [if_pos c, if_pos (by omega)]
      · rw [if_neg c, if_neg (by omega)]
theorem dpp_val (h : Nat → Int) (g : DGood h) (p : ByteArray) (hp : p.size ≤ 16) : (∀ i, i < 18 → 0 ≤ dpp h p i ∧ dpp h p i < 4096) ∧ V 256 18 (dpp h p) = V 256 18 h + qN (bt p) p.size := by
  have e : ∀ i, i < 18 → dpa h p p.size i = h i + pd (bt p) p.size i := fun i hi => by
    have a := g.part i hi
    have b := bt_nn p i
    rw [dpa_at]
    unfold pd
    split
    · rw [cv64_eq _ b.1 (by omega), ua_eq _ _ (by omega) (by omega)]
    · rw [Int.add_zero]
  have hn := g.part p.size (by omega)
  have en : dpa h p p.size p.size = h p.size := by
    rw [dpa_at, if_neg (by omega)]
  have e2 : dpp h p = upd (dpa h p p.size) p.size (h p.size + 1) := by
    unfold dpp
    rw [en, ua_eq _ _ (by omega) (by omega)]
  refine ⟨fun i hi => ?_, ?_⟩
  · have a := g.part i hi
    have b := pd_nn (bt p) p.size (bt_nn p) i
    rw [e2]
    by_cases c : i = p.size
    · rw [c, up_at]
      omega
    · rw [up_ne _ _ _ c, e i hi]
      omega
  · rw [e2, V_upd _ 18 _ _ _ (by omega), en, V_congr 256 18 _ (fun i => h i + pd (bt p) p.size i) e, V_add, V_pd _ _ _ 18 (by omega)]
    unfold qN
    rw [show h p.size + 1 - h p.size = 1 by omega]
    omega
theorem dgood0 : DGood (fun _ => 0) := ⟨fun _ _ => by decide, by decide⟩
theorem dpc_val (s : ByteArray) (j : Nat) (hj : 16 * j ≤ s.size) : qN (bt (dpc s j)) (dpc s j).size = qS s j := by
  have hs : (dpc s j).size = min 16 (s.size - 16 * j) := by
    rw [dpc_size]
    omega
  unfold qS
  rw [hs]
  unfold qN
  rw [V_congr 256 _ (bt (dpc s j)) (fun i => bt s (16 * j + i)) (fun i hi => by
    unfold dpc
    rw [bt_sub s _ _ i (by omega) (by omega)])]
theorem dsm_val (s : ByteArray) (r : Nat → Int) (gr : DGood r) : ∀ j, 16 * j ≤ s.size + 15 → DGood (dsm s r j) ∧ V 256 18 (dsm s r j) % 1361129467683753853853498429727072845819 = hN (V 256 18 r) (qS s) j
  | 0, _ => ⟨dgood0, (by decide : V 256 18 (fun _ => 0) % 1361129467683753853853498429727072845819 = 0)⟩
  | j + 1, hj => by
    obtain ⟨g, h⟩ := dsm_val s r gr j (by omega)
    obtain ⟨p1, p2⟩ := dpp_val (dsm s r j) g (dpc s j) (by rw [dpc_size]; omega)
    rw [dpc_val s j (by omega)] at p2
    obtain ⟨g1, k1, hk1⟩ := dc_val _ p1
    obtain ⟨g2, k2, hk2⟩ := dt_val _ r g1 gr
    refine ⟨g2, hN_step h (k := k2 + k1 * V 256 18 r) ?_⟩
    rw [← p2, hk1, Int.add_mul, hk2, Int.add_mul]
    have : k1 * 1361129467683753853853498429727072845819 * V 256 18 r = k1 * V 256 18 r * 1361129467683753853853498429727072845819 := by
      rw [Int.mul_right_comm]
    rw [this, Int.add_assoc]
    rfl
/-- Digits of a number that is carried. -/
theorem dig_val (s : Nat → Int) (n : Nat) (h : ∀ i, i < n → 0 ≤ s i ∧ s i < 256) (i : Nat) (hi : i < n) : dgt (V 256 n s) i = s i := by
  have sp := V_split 256 i (1 + (n - i - 1)) s
  rw [show i + (1 + (n - i - 1)) = n by omega] at sp
  have sp2 := V_split 256 1 (n - i - 1) (fun k => s (i + k))
  have sp3 : V 256 1 (fun k => s (i + k)) = s i := by
    show 0 + s (i + 0) * 256 ^ 0 = _
    simp
  rw [sp3] at sp2
  have l0 := V_nn 256 (by decide) i s (fun k hk => (h k (by omega)).1)
  have l1 := V_lt 256 (by decide) i s (fun k hk => (h k (by omega)).2)
  have B0 : (0 : Int) < 256 ^ i := Int.pow_pos (by decide)
  have := h i hi
  unfold dgt
  rw [sp, sp2, Int.add_mul_ediv_left _ _ (by omega), Int.ediv_eq_zero_of_lt l0 l1, Int.zero_add]
  rw [show (256 : Int) ^ 1 = 256 from rfl, Int.add_mul_emod_self_left]
  omega
theorem dm16 (i : Nat) (hi : i < 16) : ∃ Q : Int, (256 : Int) ^ i * (256 * Q) = 340282366920938463463374607431768211456 := ⟨256 ^ (15 - i), (by decide +kernel : ∀ i, i < 16 → (256 : Int) ^ i * (256 * 256 ^ (15 - i)) = 340282366920938463463374607431768211456) i hi⟩
theorem dgt_more (X Y : Int) (i : Nat) (hi : i < 16) : dgt (X + 340282366920938463463374607431768211456 * Y) i = dgt X i := by
  obtain ⟨Q, hQ⟩ := dm16 i hi
  have h := dgt_add X Y (256 ^ i) Q (Int.pow_pos (by decide))
  rw [hQ] at h
  exact h
theorem st_dig (g : Nat → Int) : ∀ n i, i < n → st 255 8 g n i = un (ua (g i) (cy 8 g i)) 255
  | 0, i, h => absurd h (by omega)
  | n + 1, i, h => by
    unfold st
    by_cases e : i = n
    · subst e
      rw [up_at]
    · rw [up_ne _ _ _ e, st_dig g n i (by omega)]
/-- Sixteen bytes, one added to the other. -/
theorem dby_val (g : Nat → Int) (hg : ∀ i, i < 16 → 0 ≤ g i ∧ g i < 4096) (i : Nat) (hi : i < 16) : dby g i = dgt (V 256 16 g) i := by
  have C := chain8 g 16 (fun i hi => by have := hg i hi; omega)
  have Ci := chain8 g i (fun k hk => by have := hg k (by omega); omega)
  have hv := C.val
  rw [p256] at hv
  have c0 := Ci.c0
  have c1 := Ci.c1
  have a := hg i hi
  have e : dby g i = st 255 8 g 16 i := by
    rw [st_dig g 16 i hi]
    unfold dby
    rw [cv8_eq, un8 _ (by rw [ua_eq _ _ (by omega) (by omega)]; omega) (by rw [ua_eq _ _ (by omega) (by omega)]; omega)]
  rw [e, ← dig_val _ 16 C.dig i hi, ← hv, Int.mul_comm (cy 8 g 16), dgt_more _ _ i hi]
/-- The document's tag. -/
theorem dt_tag (key s : ByteArray) : dtS key s = tagS key s := by
  obtain ⟨gr, er⟩ := dr_val key
  obtain ⟨g, h⟩ := dsm_val s (drF key) gr ((s.size + 15) / 16) (by omega)
  obtain ⟨w1, w2⟩ := dw_val _ g
  have w1' : ∀ i, i < 18 → 0 ≤ dh key s i ∧ dh key s i < 256 := w1
  have w2' : V 256 18 (dh key s) = hN (V 256 16 (rB (bt key))) (qS s) ((s.size + 15) / 16) := by
    rw [← er, ← h]
    exact w2
  have eg : ∀ i, i < 16 → dsg key (dh key s) i = dh key s i + bt key (16 + i) := fun i hi => by
    have a := w1' i (by omega)
    have b := bt_nn key (16 + i)
    unfold dsg
    rw [cv64_eq _ b.1 (by omega), ua_eq _ _ (by omega) (by omega)]
  unfold dtS tagS tagZ
  congr 1
  refine List.map_congr_left fun i hi => ?_
  have hi' := List.mem_range.1 hi
  rw [dby_val _ (fun k hk => by
    have a := w1' k (by omega)
    have b := bt_nn key (16 + k)
    rw [eg k hk]
    omega) i hi', V_congr 256 16 _ _ eg, V_add, ← w2', V18]
  rw [← dgt_more (V 256 16 (dh key s) + V 256 16 (fun i => bt key (16 + i))) (dh key s 16 + dh key s 17 * 256) i hi']
  congr 1
  omega

end Go.Proofs.YtenafinbaanicaaGreatDoor.Pol
namespace Go.Proofs.YtenafinbaanicaaGreatDoor.Pol
open Go.RowKit

theorem wrap8_bv (b : BitVec 8) : IntKind.wrap .u8 (b.toNat : Int) = (b.toNat : Int) := by
  have := b.isLt
  simp [IntKind.wrap, IntKind.signed, IntKind.bits]
  omega
theorem bv8_nat (n : Nat) (h : n < 256) : (BitVec.ofInt 8 (n : Int)).toNat = n := by
  rw [BitVec.toNat_ofInt]
  omega
theorem ob8_nn (x y : Int) : 0 ≤ ob8 x y ∧ ob8 x y < 256 := by
  unfold ob8
  rw [wrap8_bv]
  have := (BitVec.ofInt 8 x ||| BitVec.ofInt 8 y).isLt
  omega
theorem ob8_zero (x y : Int) (hx : 0 ≤ x ∧ x < 256) (hy : 0 ≤ y ∧ y < 256) : ob8 x y = 0 ↔ x = 0 ∧ y = 0 := by
  obtain ⟨n, rfl⟩ : ∃ n : Nat, x = (n : Int) := ⟨x.toNat, by omega⟩
  obtain ⟨m, rfl⟩ : ∃ m : Nat, y = (m : Int) := ⟨y.toNat, by omega⟩
  unfold ob8
  rw [wrap8_bv, BitVec.toNat_or, bv8_nat n (by omega), bv8_nat m (by omega)]
  have : n ||| m = 0 ↔ n = 0 ∧ m = 0 := Nat.or_eq_zero_iff
  omega
theorem xb_zero (x y : Int) (hx : 0 ≤ x ∧ x < 256) (hy : 0 ≤ y ∧ y < 256) : xb x y = 0 ↔ x = y := by
  obtain ⟨n, rfl⟩ : ∃ n : Nat, x = (n : Int) := ⟨x.toNat, by omega⟩
  obtain ⟨m, rfl⟩ : ∃ m : Nat, y = (m : Int) := ⟨y.toNat, by omega⟩
  unfold xb
  rw [wrap8_bv, BitVec.toNat_xor, bv8_nat n (by omega), bv8_nat m (by omega)]
  have : n ^^^ m = 0 ↔ n = m := ⟨fun h => by
    have e : n ^^^ m ^^^ m = m := by rw [h, Nat.zero_xor]
    rw [Nat.xor_assoc, Nat.xor_self, Nat.xor_zero] at e
    exact e, fun h => by rw [h, Nat.xor_self]⟩
  omega
/-- Which bits are unlike, up to a place. -/
def ul (a b : ByteArray) : Nat → Int
  | 0 => 0
  | j + 1 => ob8 (ul a b j) (xb (bt a j) (bt b j))
theorem ul_nn (a b : ByteArray) (n : Nat) : 0 ≤ ul a b n ∧ ul a b n < 256 := by
  cases n with
  | zero => exact ⟨by simp [ul], by simp [ul]⟩
  | succ n => exact ob8_nn _ _
theorem ul_zero (a b : ByteArray) : ∀ n, ul a b n = 0 ↔ ∀ i, i < n → bt a i = bt b i
  | 0 => ⟨fun _ i hi => absurd hi (by omega), fun _ => rfl⟩
  | n + 1 => by
    show ob8 (ul a b n) (xb (bt a n) (bt b n)) = 0 ↔ _
    rw [ob8_zero _ _ (ul_nn a b n) (xb_nn _ _), ul_zero a b n, xb_zero _ _ (bt_nn a n) (bt_nn b n)]
    constructor
    · rintro ⟨h1, h2⟩ i hi
      by_cases e : i = n
      · rw [e, h2]
      · exact h1 i (by omega)
    · intro h
      exact ⟨fun i hi => h i (by omega), h n (by omega)⟩
theorem bt_ext (a b : ByteArray) (hs : a.size = b.size) (h : ∀ i, i < a.size → bt a i = bt b i) : a = b := by
  have e : sb a = sb b := by
    refine List.ext_getElem? fun i => ?_
    by_cases hi : i < a.size
    · rw [sb_get a i hi, sb_get b i (by omega), h i hi]
    · rw [List.getElem?_eq_none (by rw [sb_length]; omega), List.getElem?_eq_none (by rw [sb_length]; omega)]
  rw [← bs_sb a, e, bs_sb]
theorem ul_eq (a b : ByteArray) (hs : a.size = b.size) : (ul a b a.size = 0) ↔ a = b := by
  rw [ul_zero]
  constructor
  · exact bt_ext a b hs
  · rintro rfl i _
    rfl
theorem toList_ne {a b : ByteArray} (h : a ≠ b) : (a.toList == b.toList) = false := by
  rw [ByteArray.toList_eq, ByteArray.toList_eq, beq_eq_false_iff_ne]
  intro e
  exact h (ByteArray.ext (Array.toList_inj.1 e))

set_option maxRecDepth 100000 in
set_option maxHeartbeats 4000000 in
theorem c_sameA (x y : ByteArray) (h : x.size ≠ y.size) (w : World) (hL : Laid w)  :
    Calls Tryz.prog 84 #[.string x, .string y] w fun r w' => r = .returned (.bool false) ∧ Below w.heap.size w w' := by
  go_enter Tryz.func84, Tryz.ntmps84
  have M := Mem.start hL
  refine sq ?_
  refine wp_seq ?_
  refine sR ?_
  refine rV 4 ?_
  refine ZS 11 ((x.size : Int) = (y.size : Int)) ?_
  refine nT ?_
  refine wp_cond_true (by kernel_rfl) ?_
  refine sq ?_
  refine wp_ret ?_
  refine au_then_ret ?_
  exact b1 M

set_option maxRecDepth 100000 in
set_option maxHeartbeats 4000000 in
theorem c_sameB (x y : ByteArray) (h : x.size = y.size) (e : x = y) (hz : x.size ≤ 200000) (w : World) (hL : Laid w)  :
    Calls Tryz.prog 84 #[.string x, .string y] w fun r w' => r = .returned (.bool true) ∧ Below w.heap.size w w' := by
  go_enter Tryz.func84, Tryz.ntmps84
  have M := Mem.start hL
  refine sq ?_
  refine wp_seq ?_
  refine sR ?_
  refine rV 4 ?_
  refine ZD 11 ((x.size : Int) = (y.size : Int)) ?_
  refine nT ?_
  refine wp_cond_false (by kernel_rfl) ?_
  refine wp_skip ?_
  refine au_then ?_
  refine sq ?_
  refine wp_seq ?_
  refine sq ?_
  refine wp_block ?_
  refine au_loop (fun j a w' => ∃ v1 : Nat → Value, a = (fm ([.string x, .string y, undef, undef, .bool false, .int .u8 (ul x y j), v1 6, .string x, .int .i64 (x.size : Int), .string y, .int .i64 (y.size : Int), .bool false, .string x, .int .i64 (x.size : Int), .int .i64 (j : Int)] ++ vr v1 15 12 ++ [undef, undef])) ∧ Mem ⟨w, []⟩ [] w') x.size (exS M) ?_ ?_
  · intro j a u0 hj hI
    obtain ⟨v1, rfl, M⟩ := hI
    refine sR ?_
    refine ZT 15 ((j : Int) < (x.size : Int)) ?_
    refine nT ?_
    refine wp_seq ?_
    refine wp_cond_true (by kernel_rfl) ?_
    refine wp_skip ?_
    refine au_then ?_
    refine wp_seq ?_
    refine wp_block ?_
    refine sq ?_
    refine rg_tail M 9 (by kernel_rfl) (by kernel_rfl) ?_
    simp only [List.take_succ_cons, List.take_zero]
    refine kR 3 ?_
    refine kH 20 (.int .u8 (bt x j)) (run_ixS 9 Tryz.underlying9 _ _ rfl x (by kernel_rfl) .i64 j (by kernel_rfl) (by omega)) ?_
    refine kR 2 ?_
    refine kH 23 (.int .u8 (bt y j)) (run_ixS 9 Tryz.underlying9 _ _ rfl y (by kernel_rfl) .i64 j (by kernel_rfl) (by omega)) ?_
    refine kR 2 ?_
    refine kl_nil fun u1 M => ?_
    refine rV 1 ?_
    refine pl_nil ?_
    refine au_block ?_
    refine au_then ?_
    refine rg_lit ?_
    refine ZI 26 ((j : Int) + 1) ((j + 1 : Nat) : Int) ?_
    refine rV 1 ?_
    refine nT ?_
    exact exS M
  · intro a u0 hI
    obtain ⟨v1, rfl, M⟩ := hI
    refine sR ?_
    refine ZF 15 ((x.size : Int) < (x.size : Int)) ?_
    refine nT ?_
    refine wp_seq ?_
    refine wp_cond_false (by kernel_rfl) ?_
    refine wp_exit ?_
    refine au_then_exit ?_
    refine au_then_exit ?_
    refine au_block_exit ?_
    refine au_then ?_
    refine sR ?_
    refine rV 1 ?_
    refine pH 28 (.bool true) (jT (ul x y x.size = 0) ((ul_eq x y h).2 e)) ?_
    refine rV 1 ?_
    refine nT ?_
    refine wp_ret ?_
    exact b1 M

set_option maxRecDepth 100000 in
set_option maxHeartbeats 4000000 in
theorem c_sameC (x y : ByteArray) (h : x.size = y.size) (e : x ≠ y) (hz : x.size ≤ 200000) (w : World) (hL : Laid w)  :
    Calls Tryz.prog 84 #[.string x, .string y] w fun r w' => r = .returned (.bool false) ∧ Below w.heap.size w w' := by
  go_enter Tryz.func84, Tryz.ntmps84
  have M := Mem.start hL
  refine sq ?_
  refine wp_seq ?_
  refine sR ?_
  refine rV 4 ?_
  refine ZD 11 ((x.size : Int) = (y.size : Int)) ?_
  refine nT ?_
  refine wp_cond_false (by kernel_rfl) ?_
  refine wp_skip ?_
  refine au_then ?_
  refine sq ?_
  refine wp_seq ?_
  refine sq ?_
  refine wp_block ?_
  refine au_loop (fun j a w' => ∃ v1 : Nat → Value, a = (fm ([.string x, .string y, undef, undef, .bool false, .int .u8 (ul x y j), v1 6, .string x, .int .i64 (x.size : Int), .string y, .int .i64 (y.size : Int), .bool false, .string x, .int .i64 (x.size : Int), .int .i64 (j : Int)] ++ vr v1 15 12 ++ [undef, undef])) ∧ Mem ⟨w, []⟩ [] w') x.size (exS M) ?_ ?_
  · intro j a u0 hj hI
    obtain ⟨v1, rfl, M⟩ := hI
    refine sR ?_
    refine ZT 15 ((j : Int) < (x.size : Int)) ?_
    refine nT ?_
    refine wp_seq ?_
    refine wp_cond_true (by kernel_rfl) ?_
    refine wp_skip ?_
    refine au_then ?_
    refine wp_seq ?_
    refine wp_block ?_
    refine sq ?_
    refine rg_tail M 9 (by kernel_rfl) (by kernel_rfl) ?_
    simp only [List.take_succ_cons, List.take_zero]
    refine kR 3 ?_
    refine kH 20 (.int .u8 (bt x j)) (run_ixS 9 Tryz.underlying9 _ _ rfl x (by kernel_rfl) .i64 j (by kernel_rfl) (by omega)) ?_
    refine kR 2 ?_
    refine kH 23 (.int .u8 (bt y j)) (run_ixS 9 Tryz.underlying9 _ _ rfl y (by kernel_rfl) .i64 j (by kernel_rfl) (by omega)) ?_
    refine kR 2 ?_
    refine kl_nil fun u1 M => ?_
    refine rV 1 ?_
    refine pl_nil ?_
    refine au_block ?_
    refine au_then ?_
    refine rg_lit ?_
    refine ZI 26 ((j : Int) + 1) ((j + 1 : Nat) : Int) ?_
    refine rV 1 ?_
    refine nT ?_
    exact exS M
  · intro a u0 hI
    obtain ⟨v1, rfl, M⟩ := hI
    refine sR ?_
    refine ZF 15 ((x.size : Int) < (x.size : Int)) ?_
    refine nT ?_
    refine wp_seq ?_
    refine wp_cond_false (by kernel_rfl) ?_
    refine wp_exit ?_
    refine au_then_exit ?_
    refine au_then_exit ?_
    refine au_block_exit ?_
    refine au_then ?_
    refine sR ?_
    refine rV 1 ?_
    refine pH 28 (.bool false) (jF (ul x y x.size = 0) (fun k => e ((ul_eq x y h).1 k))) ?_
    refine rV 1 ?_
    refine nT ?_
    refine wp_ret ?_
    exact b1 M

theorem c_same (x y : ByteArray) (hz : x.size ≤ 200000) (w : World) (hL : Laid w) : Calls Tryz.prog 84 #[.string x, .string y] w fun r w' => r = .returned (.bool (decide (x = y))) ∧ Below w.heap.size w w' := by
  by_cases h : x.size = y.size
  · by_cases e : x = y
    · rw [decide_eq_true e]
      exact c_sameB x y h e hz w hL
    · rw [decide_eq_false e]
      exact c_sameC x y h e hz w hL
  · rw [decide_eq_false (fun e => h (by rw [e]))]
    exact c_sameA x y h w hL
/-- The program's and the document's tag. -/
theorem c_Tag (key s : ByteArray) (hk : key.size = 32) (hz : s.size ≤ 200000) (w : World) (hL : Laid w) : Calls Tryz.prog 95 #[.string key, .string s] w fun r w' => r = .returned (.tuple #[.string (tagS key s), .int .i64 0]) ∧ Below w.heap.size w w' := by
  rw [← tg_val key s hk]
  exact c_TagA key s hk hz w hL
theorem d_Tag (key s : ByteArray) (hk : key.size = 32) (hz : s.size ≤ 200000) (w : World) (hL : Laid w) : Calls Tryz.prog 88 #[.string key, .string s] w fun r w' => r = .returned (.tuple #[.string (tagS key s), .int .i64 0]) ∧ Below w.heap.size w w' := by
  rw [← dt_tag key s]
  exact d_TagA key s hk hz w hL
theorem dgt_nn (X : Int) (i : Nat) : 0 ≤ dgt X i ∧ dgt X i < 256 := by
  unfold dgt
  omega
theorem tagS_size (key s : ByteArray) : (tagS key s).size = 16 := by
  unfold tagS
  rw [bs_size]
  simp
def zB (n : Nat) : ByteArray := bs ((List.range n).map fun _ => 0)
theorem zB_size (n : Nat) : (zB n).size = n := by
  unfold zB
  rw [bs_size]
  simp
theorem z_nn (n : Nat) : ∀ x ∈ (List.range n).map fun _ => (0 : Int), 0 ≤ x ∧ x < 256 := fun x hx => by
  obtain ⟨i, _, rfl⟩ := List.mem_map.1 hx
  decide
def b1 (x : UInt8) : ByteArray := ⟨#[x]⟩
/-- Bytes 255, so many. -/
def ffS : Nat → ByteArray
  | 0 => ⟨#[]⟩
  | j + 1 => ffS j ++ b1 255
theorem ffS_size : ∀ n, (ffS n).size = n
  | 0 => rfl
  | n + 1 => by
    show (ffS n ++ b1 255).size = n + 1
    rw [ByteArray.size_append, ffS_size n]
    rfl
def kA : ByteArray := b1 2 ++ zB 31
theorem kA_size : kA.size = 32 := by
  unfold kA
  rw [ByteArray.size_append, zB_size]
  rfl
def str5 : ByteArray := ⟨#[115, 104, 111, 114, 116]⟩
/-- The known tag. -/
theorem tagA : tagS kA (ffS 16) = b1 3 ++ zB 15 := by decide +kernel
end Go.Proofs.YtenafinbaanicaaGreatDoor.Pol
namespace Go.Proofs.YtenafinbaanicaaGreatDoor
open Go.RowKit
set_option maxRecDepth 100000

/-- A byte of a number. -/
def wb (n : Int) (i : Nat) : Int := cv .u8 (sr n (8 * i))
def wbs (n : Int) : Nat → (Nat → Int)
  | 0 => fun _ => 0
  | j + 1 => upd (wbs n j) j (wb n j)
theorem wbs_at (n : Int) : ∀ m, ∀ i, i < m → wbs n m i = wb n i
  | 0, i, h => absurd h (by omega)
  | m + 1, i, h => by
    unfold wbs upd
    by_cases e : i = m
    · rw [if_pos e, e]
    · rw [if_neg e, wbs_at n m i (by omega)]
theorem wbs_map (n : Int) : (List.range 8).map (wbs n 8) = (List.range 8).map (wb n) := List.map_congr_left fun i hi => wbs_at n 8 i (List.mem_range.1 hi)
theorem wb_nn (n : Int) : ∀ y ∈ (List.range 8).map (wb n), 0 ≤ y ∧ y < 256 := fun y hy => by
  obtain ⟨i, _, rfl⟩ := List.mem_map.1 hy
  exact cv8_nn _
/-- A number as eight bytes. -/
def wS (n : Int) : ByteArray := bs ((List.range 8).map (wb n))
theorem wS_size (n : Int) : (wS n).size = 8 := by
  unfold wS
  rw [bs_size]
  simp
/-- Bytes 0. -/
def zB (n : Nat) : ByteArray := bs ((List.range n).map fun _ => 0)
theorem zB_size (n : Nat) : (zB n).size = n := by
  unfold zB
  rw [bs_size]
  simp
theorem z_nn (n : Nat) : ∀ x ∈ (List.range n).map fun _ => (0 : Int), 0 ≤ x ∧ x < 256 := fun x hx => by
  obtain ⟨i, _, rfl⟩ := List.mem_map.1 hx
  decide
theorem z_rep (n : Nat) : List.replicate n (0 : Int) = (List.range n).map fun _ => 0 := by
  apply List.ext_getElem?
  intro i
  by_cases h : i < n
  · simp [h]
  · rw [List.getElem?_eq_none (by simp; omega), List.getElem?_eq_none (by simp; omega)]
theorem rem16 (n : Nat) : Int.tmod (n : Int) 16 = ((n % 16 : Nat) : Int) := by
  rw [Int.tmod_eq_emod_of_nonneg (by omega)]
  omega
/-- The nonce of a number. -/
def nS (n : Int) : ByteArray := zB 4 ++ wS n
theorem nS_size (n : Int) : (nS n).size = 12 := by
  unfold nS
  rw [ByteArray.size_append, zB_size, wS_size]
theorem inz156 : (Tryz.prog.info? 156).map (·.size) = some 8 := by kernel_rfl

set_option maxRecDepth 100000 in
set_option maxHeartbeats 4000000 in
theorem c_word (n : Int) (w : World) (hL : Laid w)  :
    Calls Tryz.prog 80 #[.int .u64 n] w fun r w' => r = .returned (.string (wS n)) ∧ Below w.heap.size w w' := by
  go_enter Tryz.func80, Tryz.ntmps80
  have M := Mem.start hL
  refine sq ?_
  refine sR ?_
  refine pN M 3 (.cells (av 8 (w8 (fun _ => 0))) 156) fun g1 u1 M => ?_
  refine nT ?_
  refine wp_seq ?_
  refine sq ?_
  refine wp_block ?_
  refine au_loop (fun j a w' => ∃ v1 : Nat → Value, a = (fm ([.int .u64 n, v1 1, .string ⟨#[]⟩, .pointer (some ⟨g1, 0, none⟩), v1 4, .int .i64 (j : Int)] ++ vr v1 6 12)) ∧ Mem ⟨w, []⟩ [⟨g1, .cells (av 8 (w8 (wbs n j))) 156⟩] w') 8 (exS M) ?_ ?_
  · intro j a u0 hj hI
    obtain ⟨v1, rfl, M⟩ := hI
    refine sR ?_
    refine ZT 6 ((j : Int) < 8) ?_
    refine nT ?_
    refine wp_seq ?_
    refine wp_cond_true (by kernel_rfl) ?_
    refine wp_skip ?_
    refine au_then ?_
    refine wp_seq ?_
    refine wp_block ?_
    refine sq ?_
    refine rg_lit ?_
    refine rV 3 ?_
    refine ZI 11 (8 * (j : Int)) ((8 * j : Nat) : Int) ?_
    refine pH 12 (.int .u64 (sr n (8 * j))) (Pol.run_shrU 24 3 _ _ rfl _ .i64 (8 * j) (by kernel_rfl) (by kernel_rfl) (by omega)) ?_
    refine rV 1 ?_
    refine ZX 14 .i64 g1 (j) 8 ?_
    refine ZP8 M 0 j (cv .u8 (sr n (8 * j))) fun u2 M => ?_
    refine pl_nil ?_
    refine au_block ?_
    refine au_then ?_
    refine rg_lit ?_
    refine ZI 15 ((j : Int) + 1) ((j + 1 : Nat) : Int) ?_
    refine rV 1 ?_
    refine nT ?_
    exact exS M
  · intro a u0 hI
    obtain ⟨v1, rfl, M⟩ := hI
    refine sR ?_
    refine ZF 6 (8 < 8) ?_
    refine nT ?_
    refine wp_seq ?_
    refine wp_cond_false (by kernel_rfl) ?_
    refine wp_exit ?_
    refine au_then_exit ?_
    refine au_then_exit ?_
    refine au_block_exit ?_
    refine au_then ?_
    refine sR ?_
    refine rV 1 ?_
    refine pl_back M (want_no rfl) (some 17) rfl _ rfl 0 g1 8 8 (by kernel_rfl) _ rfl ((List.range 8).map (wbs n 8)) 8 (sb_av 8 _ _) (by simp) (by rw [wbs_map]; exact wb_nn _) ?_
    rw [wbs_map]
    refine rV 1 ?_
    refine nT ?_
    refine wp_ret ?_
    exact b1 M

set_option maxRecDepth 100000 in
set_option maxHeartbeats 4000000 in
theorem d_eight (n : Int) (w : World) (hL : Laid w)  :
    Calls Tryz.prog 72 #[.int .u64 n] w fun r w' => r = .returned (.string (wS n)) ∧ Below w.heap.size w w' := by
  go_enter Tryz.func72, Tryz.ntmps72
  have M := Mem.start hL
  refine sq ?_
  refine sR ?_
  refine ZM M 5 (fun g1 => .slice (some ⟨g1, 0, none⟩) 8 8) (.cells (av 8 (w8 (fun _ => 0))) 5) fun g1 u1 M => ?_
  refine rV 1 ?_
  refine nT ?_
  refine wp_seq ?_
  refine sq ?_
  refine wp_block ?_
  refine au_loop (fun j a w' => ∃ v1 : Nat → Value, a = (fm ([.int .u64 n, v1 1, .string ⟨#[]⟩, .slice (some ⟨g1, 0, none⟩) 8 8, .int .i64 (j : Int)] ++ vr v1 5 16)) ∧ Mem ⟨w, []⟩ [⟨g1, .cells (av 8 (w8 (wbs n j))) 5⟩] w') 8 (exS M) ?_ ?_
  · intro j a u0 hj hI
    obtain ⟨v1, rfl, M⟩ := hI
    refine wp_seq ?_
    refine sR ?_
    refine rV 1 ?_
    refine ZT 7 ((j : Int) < 8) ?_
    refine nT ?_
    refine wp_cond_true (by kernel_rfl) ?_
    refine wp_skip ?_
    refine au_then ?_
    refine wp_seq ?_
    refine wp_block ?_
    refine rg_lit ?_
    refine rV 4 ?_
    refine ZI 14 (8 * (j : Int)) ((8 * j : Nat) : Int) ?_
    refine ZQ 15 .u64 (cv .u64 ((8 * j : Nat) : Int)) (cvu64 _ (by omega)) ?_
    refine pH 16 (.int .u64 (sr n (8 * j))) (Pol.run_shrU 24 147 _ _ rfl _ .u64 (8 * j) (by kernel_rfl) (by kernel_rfl) (by omega)) ?_
    refine rV 1 ?_
    refine pH 18 (.pointer (some ⟨g1, j, none⟩)) (run_ix0 97 5 Tryz.underlying97 inz5 _ _ rfl g1 8 8 (by kernel_rfl) .i64 j (by kernel_rfl) (by omega)) ?_
    refine ZP8 M 0 j (cv .u8 (sr n (8 * j))) fun u2 M => ?_
    refine pl_nil ?_
    refine au_block ?_
    refine au_then ?_
    refine rg_lit ?_
    refine rV 1 ?_
    refine ZI 9 ((j : Int) + 1) ((j + 1 : Nat) : Int) ?_
    refine rV 1 ?_
    refine nT ?_
    exact exS M
  · intro a u0 hI
    obtain ⟨v1, rfl, M⟩ := hI
    refine wp_seq ?_
    refine sR ?_
    refine rV 1 ?_
    refine ZF 7 (8 < 8) ?_
    refine nT ?_
    refine wp_cond_false (by kernel_rfl) ?_
    refine wp_exit ?_
    refine au_then_exit ?_
    refine au_then_exit ?_
    refine au_block_exit ?_
    refine au_then ?_
    refine sR ?_
    refine rV 1 ?_
    refine pl_back M (want_no rfl) (some 20) rfl _ rfl 0 g1 8 8 (by kernel_rfl) _ rfl ((List.range 8).map (wbs n 8)) 8 (sb_av 8 _ _) (by simp) (by rw [wbs_map]; exact wb_nn _) ?_
    rw [wbs_map]
    refine rV 1 ?_
    refine nT ?_
    refine wp_ret ?_
    exact b1 M

/-- So many bytes 0 that a text has a multiple of 16. -/
def pn (m : Nat) : Nat := (16 - m % 16) % 16
theorem pn_lt (m : Nat) : pn m < 16 := Nat.mod_lt _ (by decide)
theorem pn_sum (m : Nat) : (m + pn m) % 16 = 0 := by
  unfold pn
  omega
set_option maxRecDepth 100000 in
set_option maxHeartbeats 4000000 in
theorem d_pad (s : ByteArray) (w : World) (hL : Laid w)  :
    Calls Tryz.prog 89 #[.string s] w fun r w' => r = .returned (.string (zB (pn s.size))) ∧ Below w.heap.size w w' := by
  go_enter Tryz.func89, Tryz.ntmps89
  have M := Mem.start hL
  refine sq ?_
  refine sR ?_
  refine rV 2 ?_
  refine ZQ 5 .i64 (Int.tmod ((s.size : Nat) : Int) 16) (rem16 (s.size)) ?_
  refine ZI 6 (16 - ((s.size % 16 : Nat) : Int)) ((16 - s.size % 16 : Nat) : Int) ?_
  refine zJ 7 (.int .i64 ((pn s.size : Nat) : Int)) (.int .i64 (Int.tmod ((16 - s.size % 16 : Nat) : Int) 16)) (by rw [rem16]; rfl) ?_
  obtain ⟨i0, hi0, hz0, hz1, hz2⟩ := info_parts repExtra.infoByte
  have hpn := pn_lt s.size
  refine pl_makeZ M (want_no rfl) (some 8) rfl 97 5 i0 Tryz.underlying97 hi0 hz0 hz1 (by omega) _ _ rfl .i64 .i64 (pn s.size) (by kernel_rfl) (by kernel_rfl) (by omega) ?_
  intro g1 Z9 u1 hZ9 M
  rw [z_rep] at hZ9
  refine pl_back M (want_no rfl) (some 9) rfl _ rfl 0 g1 (pn s.size) (pn s.size) (by kernel_rfl) _ rfl ((List.range (pn s.size)).map fun _ => 0) _ hZ9 (by simp) (z_nn _) ?_
  refine rV 1 ?_
  refine nT ?_
  refine wp_ret ?_
  exact b1 M

section
variable {P : Program} {ops : Array Oper} {o o2 : Oper} {a : Act} {w : World} {Q : Exit → Act → World → Prop} {S : World → Prop} {n fuel : Nat} {listed : Array Bool}
/-- Number i or number j may come up. -/
theorem hl_two (i j : Nat) (hin : i < n) (hjn : j < n) (hr : Region.ready .any ops listed = [i, j]) (hi : ops.toList[i]? = some o) (hj : ops.toList[j]? = some o2)
    (h : PL P ops (Exit.then (fun a' w' => S w' ∧ HL P ops Q S n fuel (listed.setIfInBounds i true) a' w') Q) [o] a w)
    (h2 : PL P ops (Exit.then (fun a' w' => S w' ∧ HL P ops Q S n fuel (listed.setIfInBounds j true) a' w') Q) [o2] a w) : HL P ops Q S n (fuel + 1) listed a w := by
  refine ⟨fun hQ hB inv => ⟨fun h0 => (by rw [hr] at h0; cases h0), fun m hm => ?_⟩⟩
  have hm' := hm
  rw [hr] at hm
  rcases List.mem_cons.1 hm with rfl | hm
  · exact wpOp_mono (fun a' w' h3 => ⟨fun _ => h3.1, h3.2.out hQ hB (inv.set hm' hin)⟩) (wpOp_one (by rw [← Array.getElem?_toList]; exact hi) h.out)
  · obtain rfl := List.mem_singleton.1 hm
    exact wpOp_mono (fun a' w' h3 => ⟨fun _ => h3.1, h3.2.out hQ hB (inv.set hm' hjn)⟩) (wpOp_one (by rw [← Array.getElem?_toList]; exact hj) h2.out)
end

set_option maxRecDepth 100000 in
set_option maxHeartbeats 4000000 in
theorem c_Nonce (n : Int) (w : World) (hL : Laid w)  :
    Calls Tryz.prog 65 #[.int .u64 n] w fun r w' => r = .returned (.string (nS n)) ∧ Below w.heap.size w w' := by
  go_enter Tryz.func65, Tryz.ntmps65
  have M := Mem.start hL
  refine sq ?_
  refine wp_seq ?_
  refine rgh M [] 5 fun u1 M => ?_
  refine qV M 2 5 (.int .u64 n) ?_
  refine hl_two 0 3 (by decide) (by decide) (by kernel_rfl) rfl rfl ?_ ?_
  · skip
    refine ZM M 3 (fun g1 => .slice (some ⟨g1, 0, none⟩) 4 4) (.cells (av 4 (w8 (fun _ => 0))) 5) fun g1 u2 M => ?_
    refine nT ?_
    refine ⟨(M.drop (.cons _ (.slnil))), ?_⟩
    refine hl_two 1 3 (by decide) (by decide) (by kernel_rfl) rfl rfl ?_ ?_
    · skip
      refine pl_back M (want_no rfl) (some 4) rfl _ rfl 0 g1 4 4 (by kernel_rfl) _ rfl ((List.range 4).map fun _ => 0) 4 (sb_av 4 _ _) (by simp) (z_nn _) ?_
      refine nT ?_
      refine ⟨(M.drop (.cons _ (.slnil))), ?_⟩
      refine qO 3 ?_
      refine ZC M 6 (fun w M => c_word n w M.laid) fun u3 M => ?_
      refine nT ?_
      refine ⟨(M.drop (.cons _ (.slnil))), ?_⟩
      refine qH (M.drop (.cons _ (.slnil))) 4 7 (.string (nS n)) (fun w _ => (run_cat 9 9 _ _ rfl (zB 4) (wS n) (by kernel_rfl) (by kernel_rfl) (by rw [zB_size, wS_size]; decide)) w) ?_
      refine qZ ?_
      refine rV 1 ?_
      refine nT ?_
      refine au_then ?_
      refine wp_ret ?_
      exact b1 M
    · skip
      refine ZC M 6 (fun w M => c_word n w M.laid) fun u4 M => ?_
      refine nT ?_
      refine ⟨(M.drop (.cons _ (.slnil))), ?_⟩
      refine qO 1 ?_
      refine pl_back M (want_no rfl) (some 4) rfl _ rfl 0 g1 4 4 (by kernel_rfl) _ rfl ((List.range 4).map fun _ => 0) 4 (sb_av 4 _ _) (by simp) (z_nn _) ?_
      refine nT ?_
      refine ⟨(M.drop (.cons _ (.slnil))), ?_⟩
      refine qH (M.drop (.cons _ (.slnil))) 4 7 (.string (nS n)) (fun w _ => (run_cat 9 9 _ _ rfl (zB 4) (wS n) (by kernel_rfl) (by kernel_rfl) (by rw [zB_size, wS_size]; decide)) w) ?_
      refine qZ ?_
      refine rV 1 ?_
      refine nT ?_
      refine au_then ?_
      refine wp_ret ?_
      exact b1 M
  · skip
    refine ZC M 6 (fun w M => c_word n w M.laid) fun u5 M => ?_
    refine nT ?_
    refine ⟨M, ?_⟩
    refine qO 0 ?_
    refine ZM M 3 (fun g2 => .slice (some ⟨g2, 0, none⟩) 4 4) (.cells (av 4 (w8 (fun _ => 0))) 5) fun g2 u6 M => ?_
    refine nT ?_
    refine ⟨(M.drop (.cons _ (.slnil))), ?_⟩
    refine qO 1 ?_
    refine pl_back M (want_no rfl) (some 4) rfl _ rfl 0 g2 4 4 (by kernel_rfl) _ rfl ((List.range 4).map fun _ => 0) 4 (sb_av 4 _ _) (by simp) (z_nn _) ?_
    refine nT ?_
    refine ⟨(M.drop (.cons _ (.slnil))), ?_⟩
    refine qH (M.drop (.cons _ (.slnil))) 4 7 (.string (nS n)) (fun w _ => (run_cat 9 9 _ _ rfl (zB 4) (wS n) (by kernel_rfl) (by kernel_rfl) (by rw [zB_size, wS_size]; decide)) w) ?_
    refine qZ ?_
    refine rV 1 ?_
    refine nT ?_
    refine au_then ?_
    refine wp_ret ?_
    exact b1 M

set_option maxRecDepth 100000 in
set_option maxHeartbeats 4000000 in
theorem d_Nonce (n : Int) (w : World) (hL : Laid w)  :
    Calls Tryz.prog 51 #[.int .u64 n] w fun r w' => r = .returned (.string (nS n)) ∧ Below w.heap.size w w' := by
  go_enter Tryz.func51, Tryz.ntmps51
  have M := Mem.start hL
  refine sq ?_
  refine wp_seq ?_
  refine rgh M [] 5 fun u1 M => ?_
  refine qV M 2 5 (.int .u64 n) ?_
  refine hl_two 0 3 (by decide) (by decide) (by kernel_rfl) rfl rfl ?_ ?_
  · skip
    refine ZM M 3 (fun g1 => .slice (some ⟨g1, 0, none⟩) 4 4) (.cells (av 4 (w8 (fun _ => 0))) 5) fun g1 u2 M => ?_
    refine nT ?_
    refine ⟨(M.drop (.cons _ (.slnil))), ?_⟩
    refine hl_two 1 3 (by decide) (by decide) (by kernel_rfl) rfl rfl ?_ ?_
    · skip
      refine pl_back M (want_no rfl) (some 4) rfl _ rfl 0 g1 4 4 (by kernel_rfl) _ rfl ((List.range 4).map fun _ => 0) 4 (sb_av 4 _ _) (by simp) (z_nn _) ?_
      refine nT ?_
      refine ⟨(M.drop (.cons _ (.slnil))), ?_⟩
      refine qO 3 ?_
      refine ZC M 6 (fun w M => d_eight n w M.laid) fun u3 M => ?_
      refine nT ?_
      refine ⟨(M.drop (.cons _ (.slnil))), ?_⟩
      refine qH (M.drop (.cons _ (.slnil))) 4 7 (.string (nS n)) (fun w _ => (run_cat 9 9 _ _ rfl (zB 4) (wS n) (by kernel_rfl) (by kernel_rfl) (by rw [zB_size, wS_size]; decide)) w) ?_
      refine qZ ?_
      refine rV 1 ?_
      refine nT ?_
      refine au_then ?_
      refine wp_ret ?_
      exact b1 M
    · skip
      refine ZC M 6 (fun w M => d_eight n w M.laid) fun u4 M => ?_
      refine nT ?_
      refine ⟨(M.drop (.cons _ (.slnil))), ?_⟩
      refine qO 1 ?_
      refine pl_back M (want_no rfl) (some 4) rfl _ rfl 0 g1 4 4 (by kernel_rfl) _ rfl ((List.range 4).map fun _ => 0) 4 (sb_av 4 _ _) (by simp) (z_nn _) ?_
      refine nT ?_
      refine ⟨(M.drop (.cons _ (.slnil))), ?_⟩
      refine qH (M.drop (.cons _ (.slnil))) 4 7 (.string (nS n)) (fun w _ => (run_cat 9 9 _ _ rfl (zB 4) (wS n) (by kernel_rfl) (by kernel_rfl) (by rw [zB_size, wS_size]; decide)) w) ?_
      refine qZ ?_
      refine rV 1 ?_
      refine nT ?_
      refine au_then ?_
      refine wp_ret ?_
      exact b1 M
  · skip
    refine ZC M 6 (fun w M => d_eight n w M.laid) fun u5 M => ?_
    refine nT ?_
    refine ⟨M, ?_⟩
    refine qO 0 ?_
    refine ZM M 3 (fun g2 => .slice (some ⟨g2, 0, none⟩) 4 4) (.cells (av 4 (w8 (fun _ => 0))) 5) fun g2 u6 M => ?_
    refine nT ?_
    refine ⟨(M.drop (.cons _ (.slnil))), ?_⟩
    refine qO 1 ?_
    refine pl_back M (want_no rfl) (some 4) rfl _ rfl 0 g2 4 4 (by kernel_rfl) _ rfl ((List.range 4).map fun _ => 0) 4 (sb_av 4 _ _) (by simp) (z_nn _) ?_
    refine nT ?_
    refine ⟨(M.drop (.cons _ (.slnil))), ?_⟩
    refine qH (M.drop (.cons _ (.slnil))) 4 7 (.string (nS n)) (fun w _ => (run_cat 9 9 _ _ rfl (zB 4) (wS n) (by kernel_rfl) (by kernel_rfl) (by rw [zB_size, wS_size]; decide)) w) ?_
    refine qZ ?_
    refine rV 1 ?_
    refine nT ?_
    refine au_then ?_
    refine wp_ret ?_
    exact b1 M

set_option maxRecDepth 100000 in
set_option maxHeartbeats 4000000 in
theorem sfA (key nonce ad s : ByteArray) (m : Nat) (_hm : m ≤ 16) (h : key.size ≠ 32) (w : World) (hL : Laid w)  :
    Calls Tryz.prog 77 #[.string key, .string nonce, .string ad, .string s, .int .i64 (m : Int)] w fun r w' => r = .returned (.int .i64 2) ∧ Below w.heap.size w w' := by
  go_enter Tryz.func77, Tryz.ntmps77
  have M := Mem.start hL
  refine sq ?_
  refine wp_seq ?_
  refine wp_block ?_
  refine wp_seq ?_
  refine sR ?_
  refine rV 2 ?_
  refine ZS 14 ((key.size : Int) = 32) ?_
  refine rV 1 ?_
  refine nT ?_
  refine wp_cond_true (by kernel_rfl) ?_
  refine wp_skip ?_
  refine au_then ?_
  refine wp_cond_true (by kernel_rfl) ?_
  refine sq ?_
  refine wp_ret ?_
  refine au_block_ret ?_
  refine au_then_ret ?_
  exact b1 M

set_option maxRecDepth 100000 in
set_option maxHeartbeats 4000000 in
theorem sfB (key nonce ad s : ByteArray) (m : Nat) (_hm : m ≤ 16) (h : key.size = 32) (h2 : nonce.size ≠ 12) (w : World) (hL : Laid w)  :
    Calls Tryz.prog 77 #[.string key, .string nonce, .string ad, .string s, .int .i64 (m : Int)] w fun r w' => r = .returned (.int .i64 2) ∧ Below w.heap.size w w' := by
  go_enter Tryz.func77, Tryz.ntmps77
  have M := Mem.start hL
  refine sq ?_
  refine wp_seq ?_
  refine wp_block ?_
  refine wp_seq ?_
  refine sR ?_
  refine rV 2 ?_
  refine ZD 14 ((key.size : Int) = 32) ?_
  refine rV 1 ?_
  refine nT ?_
  refine wp_cond_false (by kernel_rfl) ?_
  refine rg_lit ?_
  refine rV 2 ?_
  refine ZS 17 ((nonce.size : Int) = 12) ?_
  refine rV 1 ?_
  refine nT ?_
  refine wp_cond_true (by kernel_rfl) ?_
  refine sq ?_
  refine wp_ret ?_
  refine au_block_ret ?_
  refine au_then_ret ?_
  exact b1 M

set_option maxRecDepth 100000 in
set_option maxHeartbeats 4000000 in
theorem sfC (key nonce ad s : ByteArray) (m : Nat) (_hm : m ≤ 16) (hk : key.size = 32 ∧ nonce.size = 12) (h : 65536 < ad.size) (w : World) (hL : Laid w)  :
    Calls Tryz.prog 77 #[.string key, .string nonce, .string ad, .string s, .int .i64 (m : Int)] w fun r w' => r = .returned (.int .i64 4) ∧ Below w.heap.size w w' := by
  go_enter Tryz.func77, Tryz.ntmps77
  have M := Mem.start hL
  refine sq ?_
  refine wp_seq ?_
  refine wp_block ?_
  refine wp_seq ?_
  refine sR ?_
  refine rV 2 ?_
  refine ZD 14 ((key.size : Int) = 32) ?_
  refine rV 1 ?_
  refine nT ?_
  refine wp_cond_false (by kernel_rfl) ?_
  refine rg_lit ?_
  refine rV 2 ?_
  refine ZD 17 ((nonce.size : Int) = 12) ?_
  refine rV 1 ?_
  refine nT ?_
  refine wp_cond_false (by kernel_rfl) ?_
  refine wp_seq ?_
  refine sR ?_
  refine rV 2 ?_
  refine ZT 21 ((65536 : Int) < (ad.size : Int)) ?_
  refine rV 1 ?_
  refine nT ?_
  refine wp_cond_true (by kernel_rfl) ?_
  refine wp_skip ?_
  refine au_then ?_
  refine wp_cond_true (by kernel_rfl) ?_
  refine sq ?_
  refine wp_ret ?_
  refine au_block_ret ?_
  refine au_then_ret ?_
  exact b1 M

set_option maxRecDepth 100000 in
set_option maxHeartbeats 4000000 in
theorem sfD (key nonce ad s : ByteArray) (m : Nat) (_hm : m ≤ 16) (hk : key.size = 32 ∧ nonce.size = 12) (h : ¬ 65536 < ad.size) (h2 : 65536 + m < s.size) (w : World) (hL : Laid w)  :
    Calls Tryz.prog 77 #[.string key, .string nonce, .string ad, .string s, .int .i64 (m : Int)] w fun r w' => r = .returned (.int .i64 4) ∧ Below w.heap.size w w' := by
  go_enter Tryz.func77, Tryz.ntmps77
  have M := Mem.start hL
  refine sq ?_
  refine wp_seq ?_
  refine wp_block ?_
  refine wp_seq ?_
  refine sR ?_
  refine rV 2 ?_
  refine ZD 14 ((key.size : Int) = 32) ?_
  refine rV 1 ?_
  refine nT ?_
  refine wp_cond_false (by kernel_rfl) ?_
  refine rg_lit ?_
  refine rV 2 ?_
  refine ZD 17 ((nonce.size : Int) = 12) ?_
  refine rV 1 ?_
  refine nT ?_
  refine wp_cond_false (by kernel_rfl) ?_
  refine wp_seq ?_
  refine sR ?_
  refine rV 2 ?_
  refine ZF 21 ((65536 : Int) < (ad.size : Int)) ?_
  refine rV 1 ?_
  refine nT ?_
  refine wp_cond_false (by kernel_rfl) ?_
  refine rg_lit ?_
  refine rV 3 ?_
  refine ZI 25 (65536 + (m : Int)) ((65536 + m : Nat) : Int) ?_
  refine ZT 26 (((65536 + m : Nat) : Int) < (s.size : Int)) ?_
  refine rV 1 ?_
  refine nT ?_
  refine wp_cond_true (by kernel_rfl) ?_
  refine sq ?_
  refine wp_ret ?_
  refine au_block_ret ?_
  refine au_then_ret ?_
  exact b1 M

set_option maxRecDepth 100000 in
set_option maxHeartbeats 4000000 in
theorem sfE (key nonce ad s : ByteArray) (m : Nat) (_hm : m ≤ 16) (hk : key.size = 32 ∧ nonce.size = 12) (h : ¬ 65536 < ad.size) (h2 : s.size < m) (w : World) (hL : Laid w)  :
    Calls Tryz.prog 77 #[.string key, .string nonce, .string ad, .string s, .int .i64 (m : Int)] w fun r w' => r = .returned (.int .i64 100) ∧ Below w.heap.size w w' := by
  go_enter Tryz.func77, Tryz.ntmps77
  have M := Mem.start hL
  refine sq ?_
  refine wp_seq ?_
  refine wp_block ?_
  refine wp_seq ?_
  refine sR ?_
  refine rV 2 ?_
  refine ZD 14 ((key.size : Int) = 32) ?_
  refine rV 1 ?_
  refine nT ?_
  refine wp_cond_false (by kernel_rfl) ?_
  refine rg_lit ?_
  refine rV 2 ?_
  refine ZD 17 ((nonce.size : Int) = 12) ?_
  refine rV 1 ?_
  refine nT ?_
  refine wp_cond_false (by kernel_rfl) ?_
  refine wp_seq ?_
  refine sR ?_
  refine rV 2 ?_
  refine ZF 21 ((65536 : Int) < (ad.size : Int)) ?_
  refine rV 1 ?_
  refine nT ?_
  refine wp_cond_false (by kernel_rfl) ?_
  refine rg_lit ?_
  refine rV 3 ?_
  refine ZI 25 (65536 + (m : Int)) ((65536 + m : Nat) : Int) ?_
  refine ZF 26 (((65536 + m : Nat) : Int) < (s.size : Int)) ?_
  refine rV 1 ?_
  refine nT ?_
  refine wp_cond_false (by kernel_rfl) ?_
  refine sR ?_
  refine rV 3 ?_
  refine ZT 31 ((s.size : Int) < (m : Int)) ?_
  refine rV 1 ?_
  refine nT ?_
  refine wp_cond_true (by kernel_rfl) ?_
  refine sq ?_
  refine wp_ret ?_
  refine au_block_ret ?_
  refine au_then_ret ?_
  exact b1 M

set_option maxRecDepth 100000 in
set_option maxHeartbeats 4000000 in
theorem sfF (key nonce ad s : ByteArray) (m : Nat) (_hm : m ≤ 16) (hk : key.size = 32 ∧ nonce.size = 12) (h : ¬ 65536 < ad.size) (h2 : ¬ 65536 + m < s.size) (h3 : ¬ s.size < m) (w : World) (hL : Laid w)  :
    Calls Tryz.prog 77 #[.string key, .string nonce, .string ad, .string s, .int .i64 (m : Int)] w fun r w' => r = .returned (.int .i64 0) ∧ Below w.heap.size w w' := by
  go_enter Tryz.func77, Tryz.ntmps77
  have M := Mem.start hL
  refine sq ?_
  refine wp_seq ?_
  refine wp_block ?_
  refine wp_seq ?_
  refine sR ?_
  refine rV 2 ?_
  refine ZD 14 ((key.size : Int) = 32) ?_
  refine rV 1 ?_
  refine nT ?_
  refine wp_cond_false (by kernel_rfl) ?_
  refine rg_lit ?_
  refine rV 2 ?_
  refine ZD 17 ((nonce.size : Int) = 12) ?_
  refine rV 1 ?_
  refine nT ?_
  refine wp_cond_false (by kernel_rfl) ?_
  refine wp_seq ?_
  refine sR ?_
  refine rV 2 ?_
  refine ZF 21 ((65536 : Int) < (ad.size : Int)) ?_
  refine rV 1 ?_
  refine nT ?_
  refine wp_cond_false (by kernel_rfl) ?_
  refine rg_lit ?_
  refine rV 3 ?_
  refine ZI 25 (65536 + (m : Int)) ((65536 + m : Nat) : Int) ?_
  refine ZF 26 (((65536 + m : Nat) : Int) < (s.size : Int)) ?_
  refine rV 1 ?_
  refine nT ?_
  refine wp_cond_false (by kernel_rfl) ?_
  refine sR ?_
  refine rV 3 ?_
  refine ZF 31 ((s.size : Int) < (m : Int)) ?_
  refine rV 1 ?_
  refine nT ?_
  refine wp_cond_false (by kernel_rfl) ?_
  refine wp_skip ?_
  refine au_block ?_
  refine au_then ?_
  refine sq ?_
  refine wp_ret ?_
  exact b1 M

/-- What is wrong with sizes. -/
def sf (key nonce ad s : ByteArray) (m : Nat) : Int := if key.size ≠ 32 ∨ nonce.size ≠ 12 then 2 else if 65536 < ad.size ∨ 65536 + m < s.size then 4 else if s.size < m then 100 else 0
theorem c_fault (key nonce ad s : ByteArray) (m : Nat) (hm : m ≤ 16) (w : World) (hL : Laid w) : Calls Tryz.prog 77 #[.string key, .string nonce, .string ad, .string s, .int .i64 (m : Int)] w fun r w' => r = .returned (.int .i64 (sf key nonce ad s m)) ∧ Below w.heap.size w w' := by
  unfold sf
  by_cases h : key.size = 32
  · by_cases h2 : nonce.size = 12
    · rw [if_neg (by omega)]
      by_cases h3 : 65536 < ad.size
      · rw [if_pos (.inl h3)]
        exact sfC key nonce ad s m hm ⟨h, h2⟩ h3 w hL
      · by_cases h4 : 65536 + m < s.size
        · rw [if_pos (.inr h4)]
          exact sfD key nonce ad s m hm ⟨h, h2⟩ h3 h4 w hL
        · rw [if_neg (by omega)]
          by_cases h5 : s.size < m
          · rw [if_pos h5]
            exact sfE key nonce ad s m hm ⟨h, h2⟩ h3 h5 w hL
          · rw [if_neg h5]
            exact sfF key nonce ad s m hm ⟨h, h2⟩ h3 h4 h5 w hL
    · rw [if_pos (.inr h2)]
      exact sfB key nonce ad s m hm h h2 w hL
  · rw [if_pos (.inl h)]
    exact sfA key nonce ad s m hm h w hL


end Go.Proofs.YtenafinbaanicaaGreatDoor
namespace Go.Proofs.YtenafinbaanicaaGreatDoor
open Go.RowKit
set_option maxRecDepth 100000

/-- The bytes that were put together: texts, each filled up; and their lengths. -/
def j1 (ad : ByteArray) : List UInt8 := ad.data.toList ++ List.replicate (pn ad.size) 0
def j1c (ad c : ByteArray) : List UInt8 := j1 ad ++ c.data.toList
def j2 (ad c : ByteArray) : List UInt8 := j1c ad c ++ List.replicate (pn (ad.size + pn ad.size + c.size)) 0
def m1 (ad : ByteArray) : List UInt8 := (wS (ad.size : Int)).data.toList
def m2 (ad c : ByteArray) : List UInt8 := m1 ad ++ (wS (c.size : Int)).data.toList
def mS (ad c : ByteArray) : ByteArray := ⟨(m2 ad c).toArray⟩
def jn (ad c : ByteArray) : ByteArray := ⟨(j2 ad c ++ m2 ad c).toArray⟩
theorem dl_len (s : ByteArray) : s.data.toList.length = s.size := rfl
theorem j1_len (ad : ByteArray) : (j1 ad).length = ad.size + pn ad.size := by
  unfold j1
  rw [List.length_append, dl_len, List.length_replicate]
theorem j1c_len (ad c : ByteArray) : (j1c ad c).length = ad.size + pn ad.size + c.size := by
  unfold j1c
  rw [List.length_append, dl_len, j1_len]
theorem j2_len (ad c : ByteArray) : (j2 ad c).length = ad.size + pn ad.size + c.size + pn (ad.size + pn ad.size + c.size) := by
  unfold j2
  rw [List.length_append, j1c_len, List.length_replicate]
theorem m1_len (ad : ByteArray) : (m1 ad).length = 8 := by
  unfold m1
  rw [dl_len, wS_size]
theorem m2_len (ad c : ByteArray) : (m2 ad c).length = 16 := by
  unfold m2
  rw [List.length_append, dl_len, wS_size, m1_len]
theorem rep_more (l : List UInt8) (j : Nat) : l ++ List.replicate j 0 ++ [UInt8.ofNat (0 : Int).toNat] = l ++ List.replicate (j + 1) 0 := by
  rw [List.append_assoc, List.replicate_succ']
  rfl
theorem rep_len (l : List UInt8) (n j : Nat) (h : l.length = n) : (l ++ List.replicate j 0).length = n + j := by
  rw [List.length_append, List.length_replicate, h]

set_option maxRecDepth 100000 in
set_option maxHeartbeats 4000000 in
theorem c_joined (ad c : ByteArray) (gt : Nat) (w : World) (hL : Laid w) (hz : ad.size + c.size ≤ 150000) (hg : gt < w.heap.size) (h0 : w.cell? ⟨gt, 0, none⟩ = some (.string ad)) (h1 : w.cell? ⟨gt, 1, none⟩ = some (.string c)) :
    Calls Tryz.prog 96 #[.slice (some ⟨gt, 0, none⟩) 2 2] w fun r w' => r = .returned (.string (jn ad c)) ∧ Below w.heap.size w w' := by
  have hpa := pn_lt ad.size
  go_enter Tryz.func96, Tryz.ntmps96
  have M := Mem.start hL
  refine sq ?_
  refine sR ?_
  refine pN M 3 (.cells (av 2 bF0) 165) ?_
  intro k1 u1 M
  refine pN M 4 (.cells (av 2 bF0) 165) ?_
  intro k2 u2 M
  refine pl_nil ?_
  have hS := SN.start2 M
  clear M
  have M := hS.mem hL
  refine au_then ?_
  refine wp_seq ?_
  refine sq ?_
  refine wp_block ?_
  refine wp_loop_rounds 3 ?_
  refine rounds_go ?_
  refine sq ?_
  refine wp_seq ?_
  refine wp_cond_true (by kernel_rfl) ?_
  refine wp_skip ?_
  refine au_then ?_
  refine wp_seq ?_
  refine wp_block ?_
  refine sR ?_
  refine pH 11 (.pointer (some ⟨gt, 0, none⟩)) (run_ix0 186 9 Tryz.underlying186 inz9 _ _ rfl gt 2 2 (by kernel_rfl) .i64 0 (by kernel_rfl) (by decide)) ?_
  refine pE M 12 gt 0 (.string ad) (fun w M => M.oldc (hS.cell hg h0) (by simp)) ?_
  refine rV 1 ?_
  refine nT ?_
  refine sR ?_
  refine rV 1 ?_
  refine pl_callr (want_no rfl) (some 14) rfl 118 #[.pointer (some ⟨k1, 0, none⟩), .string ad] (.tuple #[.int .i64 (ad.size : Int), .nilIface]) _ (fun _ => by kernel_rfl) ((hS.next M).wstr hL ad (by show 0 + ad.size ≤ _; omega)) ?_
  intro u3 hS9
  clear M hS
  have hS : SN w [⟨k1, ad.data.toList⟩, ⟨k2, []⟩] [] u3 := hS9
  have M := hS.mem hL
  refine nT ?_
  refine wp_seq ?_
  refine wp_block ?_
  obtain ⟨N0, hN0⟩ : ∃ N, N = pn ad.size := ⟨_, rfl⟩
  have hP0 : N0 = (16 - ad.size % 16) % 16 := hN0
  refine au_loop (fun j a u => ∃ v1 : Nat → Value, a = (fm ([.slice (some ⟨gt, 0, none⟩) 2 2, v1 1, .string ⟨#[]⟩, .pointer (some ⟨k1, 0, none⟩), .pointer (some ⟨k2, 0, none⟩), v1 5, .string ad, .slice (some ⟨gt, 0, none⟩) 2 2, .int .i64 2, .int .i64 0] ++ vr v1 10 18)) ∧ SN w [⟨k1, ad.data.toList ++ List.replicate j 0⟩, ⟨k2, []⟩] [] u) N0 (exS (by rw [List.replicate_zero, List.append_nil]; exact hS.next M)) ?_ ?_
  · intro j a u0 hj hI
    clear M hS
    obtain ⟨v1, rfl, hS⟩ := hI
    have M := hS.mem hL
    refine wp_seq ?_
    refine sR ?_
    refine pl_callr (want_no rfl) (some 15) rfl 119 #[.pointer (some ⟨k1, 0, none⟩)] (.int .i64 ((ad.size + j : Nat) : Int)) _ (fun _ => by kernel_rfl) (by have h9 := (hS.next M).len hL; rw [rep_len _ _ _ (dl_len ad)] at h9; exact h9) ?_
    intro u4 hS9
    clear M hS
    have hS : SN w [⟨k1, ad.data.toList ++ List.replicate j 0⟩, ⟨k2, []⟩] [] u4 := hS9
    have M := hS.mem hL
    refine ZQ 16 .i64 (Int.tmod ((ad.size + j : Nat) : Int) 16) (rem16 (ad.size + j)) ?_
    refine ZS 17 ((((ad.size + j) % 16 : Nat) : Int) = 0) ?_
    refine nT ?_
    refine wp_cond_true (by kernel_rfl) ?_
    refine wp_skip ?_
    refine au_then ?_
    refine wp_block ?_
    refine rg_lit ?_
    refine pl_callr (want_no rfl) (some 18) rfl 106 #[.pointer (some ⟨k1, 0, none⟩), .int .u8 0] .nilIface _ (fun _ => by kernel_rfl) ((hS.next M).wbyte hL 0 (by decide) (by decide) (by rw [rep_len _ _ _ (dl_len ad)]; omega)) ?_
    intro u5 hS9
    clear M hS
    have hS : SN w [⟨k1, ad.data.toList ++ List.replicate (j + 1) 0⟩, ⟨k2, []⟩] [] u5 := (by rw [← rep_more]; exact hS9)
    have M := hS.mem hL
    refine pl_nil ?_
    refine au_block ?_
    refine au_then ?_
    exact exS hS
  · intro a u0 hI
    clear M hS
    obtain ⟨v1, rfl, hS⟩ := hI
    have M := hS.mem hL
    refine wp_seq ?_
    refine sR ?_
    refine pl_callr (want_no rfl) (some 15) rfl 119 #[.pointer (some ⟨k1, 0, none⟩)] (.int .i64 ((ad.size + N0 : Nat) : Int)) _ (fun _ => by kernel_rfl) (by have h9 := (hS.next M).len hL; rw [rep_len _ _ _ (dl_len ad)] at h9; exact h9) ?_
    intro u6 hS9
    clear M hS
    have hS : SN w [⟨k1, ad.data.toList ++ List.replicate N0 0⟩, ⟨k2, []⟩] [] u6 := hS9
    have M := hS.mem hL
    refine ZQ 16 .i64 (Int.tmod ((ad.size + N0 : Nat) : Int) 16) (rem16 (ad.size + N0)) ?_
    refine ZD 17 ((((ad.size + N0) % 16 : Nat) : Int) = 0) ?_
    refine nT ?_
    refine wp_cond_false (by kernel_rfl) ?_
    refine wp_exit ?_
    refine au_then_exit ?_
    refine au_then_exit ?_
    refine au_block_exit ?_
    refine au_then ?_
    replace hS : SN w [⟨k1, (j1 ad)⟩, ⟨k2, []⟩] [] u6 := (by have h9 := hS.next M; rw [hN0] at h9; exact h9)
    clear M
    have M := hS.mem hL
    refine rg_lit ?_
    refine rV 2 ?_
    refine ZQ 21 .u64 (cv .u64 (ad.size : Int)) (cvu64 _ (by omega)) ?_
    refine pC M 22 80 #[.int .u64 (ad.size : Int)] (.string (wS (ad.size : Int))) (fun w M => c_word _ w M.laid) fun u7 M => ?_
    refine pl_callr (want_no rfl) (some 23) rfl 118 #[.pointer (some ⟨k2, 0, none⟩), .string (wS (ad.size : Int))] (.tuple #[.int .i64 ((wS (ad.size : Int)).size : Int), .nilIface]) _ (fun _ => by kernel_rfl) (((hS.next M).perm (.swap _ _ _)).wstr hL (wS (ad.size : Int)) (by rw [wS_size]; show 0 + 8 ≤ _; omega)) ?_
    intro u8 hS9
    clear M hS
    have hS : SN w [⟨k1, (j1 ad)⟩, ⟨k2, (m1 ad)⟩] [] u8 := hS9.perm (.swap _ _ _)
    have M := hS.mem hL
    refine pl_nil ?_
    refine au_block ?_
    refine au_then ?_
    refine rg_lit ?_
    refine rV 2 ?_
    refine nT ?_
    refine rounds_go ?_
    refine sq ?_
    refine wp_seq ?_
    refine wp_cond_true (by kernel_rfl) ?_
    refine wp_skip ?_
    refine au_then ?_
    refine wp_seq ?_
    refine wp_block ?_
    refine sR ?_
    refine pH 11 (.pointer (some ⟨gt, 1, none⟩)) (run_ix0 186 9 Tryz.underlying186 inz9 _ _ rfl gt 2 2 (by kernel_rfl) .i64 1 (by kernel_rfl) (by decide)) ?_
    refine pE M 12 gt 1 (.string c) (fun w M => M.oldc (hS.cell hg h1) (by simp)) ?_
    refine rV 1 ?_
    refine nT ?_
    refine sR ?_
    refine rV 1 ?_
    refine pl_callr (want_no rfl) (some 14) rfl 118 #[.pointer (some ⟨k1, 0, none⟩), .string c] (.tuple #[.int .i64 (c.size : Int), .nilIface]) _ (fun _ => by kernel_rfl) ((hS.next M).wstr hL c (by rw [j1_len]; omega)) ?_
    intro u9 hS9
    clear M hS
    have hS : SN w [⟨k1, (j1c ad c)⟩, ⟨k2, (m1 ad)⟩] [] u9 := hS9
    have M := hS.mem hL
    refine nT ?_
    refine wp_seq ?_
    refine wp_block ?_
    obtain ⟨N1, hN1⟩ : ∃ N, N = pn (ad.size + pn ad.size + c.size) := ⟨_, rfl⟩
    have hP1 : N1 = (16 - (ad.size + pn ad.size + c.size) % 16) % 16 := hN1
    refine au_loop (fun j a u => ∃ v2 : Nat → Value, a = (fm ([.slice (some ⟨gt, 0, none⟩) 2 2, v2 1, .string ⟨#[]⟩, .pointer (some ⟨k1, 0, none⟩), .pointer (some ⟨k2, 0, none⟩), v2 5, .string c, .slice (some ⟨gt, 0, none⟩) 2 2, .int .i64 2, .int .i64 1] ++ vr v2 10 18)) ∧ SN w [⟨k1, (j1c ad c) ++ List.replicate j 0⟩, ⟨k2, (m1 ad)⟩] [] u) N1 (exS (by rw [List.replicate_zero, List.append_nil]; exact hS.next M)) ?_ ?_
    · intro j a u0 hj hI
      clear M hS
      obtain ⟨v2, rfl, hS⟩ := hI
      have M := hS.mem hL
      refine wp_seq ?_
      refine sR ?_
      refine pl_callr (want_no rfl) (some 15) rfl 119 #[.pointer (some ⟨k1, 0, none⟩)] (.int .i64 (((ad.size + pn ad.size + c.size) + j : Nat) : Int)) _ (fun _ => by kernel_rfl) (by have h9 := (hS.next M).len hL; rw [rep_len _ _ _ (j1c_len ad c)] at h9; exact h9) ?_
      intro u10 hS9
      clear M hS
      have hS : SN w [⟨k1, (j1c ad c) ++ List.replicate j 0⟩, ⟨k2, (m1 ad)⟩] [] u10 := hS9
      have M := hS.mem hL
      refine ZQ 16 .i64 (Int.tmod (((ad.size + pn ad.size + c.size) + j : Nat) : Int) 16) (rem16 ((ad.size + pn ad.size + c.size) + j)) ?_
      refine ZS 17 (((((ad.size + pn ad.size + c.size) + j) % 16 : Nat) : Int) = 0) ?_
      refine nT ?_
      refine wp_cond_true (by kernel_rfl) ?_
      refine wp_skip ?_
      refine au_then ?_
      refine wp_block ?_
      refine rg_lit ?_
      refine pl_callr (want_no rfl) (some 18) rfl 106 #[.pointer (some ⟨k1, 0, none⟩), .int .u8 0] .nilIface _ (fun _ => by kernel_rfl) ((hS.next M).wbyte hL 0 (by decide) (by decide) (by rw [rep_len _ _ _ (j1c_len ad c)]; omega)) ?_
      intro u11 hS9
      clear M hS
      have hS : SN w [⟨k1, (j1c ad c) ++ List.replicate (j + 1) 0⟩, ⟨k2, (m1 ad)⟩] [] u11 := (by rw [← rep_more]; exact hS9)
      have M := hS.mem hL
      refine pl_nil ?_
      refine au_block ?_
      refine au_then ?_
      exact exS hS
    · intro a u0 hI
      clear M hS
      obtain ⟨v2, rfl, hS⟩ := hI
      have M := hS.mem hL
      refine wp_seq ?_
      refine sR ?_
      refine pl_callr (want_no rfl) (some 15) rfl 119 #[.pointer (some ⟨k1, 0, none⟩)] (.int .i64 (((ad.size + pn ad.size + c.size) + N1 : Nat) : Int)) _ (fun _ => by kernel_rfl) (by have h9 := (hS.next M).len hL; rw [rep_len _ _ _ (j1c_len ad c)] at h9; exact h9) ?_
      intro u12 hS9
      clear M hS
      have hS : SN w [⟨k1, (j1c ad c) ++ List.replicate N1 0⟩, ⟨k2, (m1 ad)⟩] [] u12 := hS9
      have M := hS.mem hL
      refine ZQ 16 .i64 (Int.tmod (((ad.size + pn ad.size + c.size) + N1 : Nat) : Int) 16) (rem16 ((ad.size + pn ad.size + c.size) + N1)) ?_
      refine ZD 17 (((((ad.size + pn ad.size + c.size) + N1) % 16 : Nat) : Int) = 0) ?_
      refine nT ?_
      refine wp_cond_false (by kernel_rfl) ?_
      refine wp_exit ?_
      refine au_then_exit ?_
      refine au_then_exit ?_
      refine au_block_exit ?_
      refine au_then ?_
      replace hS : SN w [⟨k1, (j2 ad c)⟩, ⟨k2, (m1 ad)⟩] [] u12 := (by have h9 := hS.next M; rw [hN1] at h9; exact h9)
      clear M
      have M := hS.mem hL
      refine rg_lit ?_
      refine rV 2 ?_
      refine ZQ 21 .u64 (cv .u64 (c.size : Int)) (cvu64 _ (by omega)) ?_
      refine pC M 22 80 #[.int .u64 (c.size : Int)] (.string (wS (c.size : Int))) (fun w M => c_word _ w M.laid) fun u13 M => ?_
      refine pl_callr (want_no rfl) (some 23) rfl 118 #[.pointer (some ⟨k2, 0, none⟩), .string (wS (c.size : Int))] (.tuple #[.int .i64 ((wS (c.size : Int)).size : Int), .nilIface]) _ (fun _ => by kernel_rfl) (((hS.next M).perm (.swap _ _ _)).wstr hL (wS (c.size : Int)) (by rw [m1_len, wS_size]; decide)) ?_
      intro u14 hS9
      clear M hS
      have hS : SN w [⟨k1, (j2 ad c)⟩, ⟨k2, (m2 ad c)⟩] [] u14 := hS9.perm (.swap _ _ _)
      have M := hS.mem hL
      refine pl_nil ?_
      refine au_block ?_
      refine au_then ?_
      refine rg_lit ?_
      refine rV 2 ?_
      refine nT ?_
      refine rounds_go ?_
      refine sq ?_
      refine wp_seq ?_
      refine wp_cond_false (by kernel_rfl) ?_
      refine wp_exit ?_
      refine au_then_exit ?_
      refine au_then_exit ?_
      refine au_block_exit ?_
      refine au_then ?_
      refine sR ?_
      refine pl_callr (want_no rfl) (some 25) rfl 107 #[.pointer (some ⟨k2, 0, none⟩)] (.string (mS ad c)) _ (fun _ => by kernel_rfl) (((hS.next M).perm (.swap _ _ _)).str hL (fun e => by have := m2_len ad c; rw [e] at this; cases this)) ?_
      intro u15 hS9
      clear M hS
      have hS : SN w [⟨k1, (j2 ad c)⟩, ⟨k2, (m2 ad c)⟩] [] u15 := hS9.perm (.swap _ _ _)
      have M := hS.mem hL
      refine pl_callr (want_no rfl) (some 26) rfl 118 #[.pointer (some ⟨k1, 0, none⟩), .string (mS ad c)] (.tuple #[.int .i64 ((mS ad c).size : Int), .nilIface]) _ (fun _ => by kernel_rfl) ((hS.next M).wstr hL (mS ad c) (by rw [j2_len]; show _ + (m2 ad c).length ≤ _; rw [m2_len]; have := pn_lt (ad.size + pn ad.size + c.size); omega)) ?_
      intro u16 hS9
      clear M hS
      have hS : SN w [⟨k1, (j2 ad c ++ m2 ad c)⟩, ⟨k2, (m2 ad c)⟩] [] u16 := hS9
      have M := hS.mem hL
      refine nT ?_
      refine sR ?_
      refine pl_callr (want_no rfl) (some 27) rfl 107 #[.pointer (some ⟨k1, 0, none⟩)] (.string (jn ad c)) _ (fun _ => by kernel_rfl) ((hS.next M).str hL (fun e => by have := j2_len ad c; have h3 := congrArg List.length e; rw [List.length_append, m2_len] at h3; simp at h3)) ?_
      intro u17 hS9
      clear M hS
      have hS : SN w [⟨k1, (j2 ad c ++ m2 ad c)⟩, ⟨k2, (m2 ad c)⟩] [] u17 := hS9
      have M := hS.mem hL
      refine rV 1 ?_
      refine nT ?_
      refine wp_ret ?_
      exact bX (.string (jn ad c)) ⟨rfl, (hS.next M).bel⟩

end Go.Proofs.YtenafinbaanicaaGreatDoor
namespace Go.Proofs.YtenafinbaanicaaGreatDoor
open Go.RowKit
set_option maxRecDepth 100000

def strE0 : ByteArray := ⟨#[]⟩
def tx2 (ad c : ByteArray) : Nat → Value := fun i => if i = 0 then .string ad else .string c
/-- The key of a tag. -/
def otk (key nonce : ByteArray) : ByteArray := (blk (fw key nonce 0)).extract 0 32
theorem otk_size (key nonce : ByteArray) : (otk key nonce).size = 32 := by
  unfold otk
  rw [ByteArray.size_extract, blk_size]
  rfl
theorem jn_size (ad c : ByteArray) : (jn ad c).size ≤ ad.size + c.size + 48 := by
  have h : (jn ad c).size = (j2 ad c ++ m2 ad c).length := rfl
  rw [h, List.length_append, j2_len, m2_len]
  have := pn_lt ad.size
  have := pn_lt (ad.size + pn ad.size + c.size)
  omega
/-- The tag of what was enciphered, and what stands beside it. -/
def tgO (key nonce ad c : ByteArray) : ByteArray := Pol.tagS (otk key nonce) (jn ad c)
theorem tgO_size (key nonce ad c : ByteArray) : (tgO key nonce ad c).size = 16 := Pol.tagS_size _ _
/-- The text, turned from block 1 on. -/
def tn (key nonce s : ByteArray) : ByteArray := oS (fw key nonce 1) s
theorem tn_size (key nonce s : ByteArray) : (tn key nonce s).size = s.size := oS_size _ _
/-- What a text is when it is sealed. -/
def sealS (key nonce ad s : ByteArray) : ByteArray := tn key nonce s ++ tgO key nonce ad (tn key nonce s)
theorem sealS_size (key nonce ad s : ByteArray) : (sealS key nonce ad s).size = s.size + 16 := by
  unfold sealS
  rw [ByteArray.size_append, tn_size, tgO_size]
theorem sf_zero {key nonce ad s : ByteArray} {m : Nat} (h : sf key nonce ad s m = 0) : (key.size = 32 ∧ nonce.size = 12) ∧ ad.size ≤ 65536 ∧ s.size ≤ 65536 + m ∧ m ≤ s.size := by
  unfold sf at h
  split at h
  · cases h
  · split at h
    · cases h
    · split at h
      · cases h
      · omega
theorem sf_ok {key nonce ad s : ByteArray} {m : Nat} (hk : key.size = 32 ∧ nonce.size = 12) (ha : ad.size ≤ 65536) (hs : s.size ≤ 65536 + m) (hm : m ≤ s.size) : sf key nonce ad s m = 0 := by
  unfold sf
  rw [if_neg (by omega), if_neg (by omega), if_neg (by omega)]
theorem c_Turn1 (key nonce s : ByteArray) (hm : key.size = 32 ∧ nonce.size = 12) (hz : s.size ≤ 65536) (w : World) (hL : Laid w) : Calls Tryz.prog 78 #[.string key, .string nonce, .int .u32 1, .string s] w fun r w' => r = .returned (.tuple #[.string (tn key nonce s), .int .i64 0]) ∧ Below w.heap.size w w' := c_TurnA key nonce 1 (by decide) s (by omega) hm (by omega) w hL

set_option maxRecDepth 100000 in
set_option maxHeartbeats 4000000 in
theorem c_tagOf (key nonce ad c : ByteArray) (hm : key.size = 32 ∧ nonce.size = 12) (hz : ad.size + c.size ≤ 150000) (w : World) (hL : Laid w)  :
    Calls Tryz.prog 79 #[.string key, .string nonce, .string ad, .string c] w fun r w' => r = .returned (.string (tgO key nonce ad c)) ∧ Below w.heap.size w w' := by
  go_enter Tryz.func79, Tryz.ntmps79
  have M := Mem.start hL
  refine sq ?_
  refine sR ?_
  refine rV 2 ?_
  refine ZC M 16 (fun w M => c_BlockA key nonce 0 hm w M.laid) fun u1 M => ?_
  refine rV 5 ?_
  refine nT ?_
  refine wp_seq ?_
  refine rgh M [] 11 fun u2 M => ?_
  refine qV M 0 20 (.string (blk (fw key nonce 0))) ?_
  refine qH M 1 21 (.string (otk key nonce)) (fun w _ => (run_strh 9 Tryz.underlying9 _ _ rfl (blk (fw key nonce 0)) (by kernel_rfl) .i64 32 (by kernel_rfl) (by rw [blk_size]; decide) _ rfl) w) ?_
  refine qV M 2 22 (.string ad) ?_
  refine qV M 3 23 (.string c) ?_
  refine qO 4 ?_
  refine ZM M 24 (fun g1 => .slice (some ⟨g1, 0, none⟩) 2 2) (.cells (av 2 (tx2 ad c)) 9) fun g1 u3 M => ?_
  refine nT ?_
  refine ⟨(M.drop (.cons _ (.slnil))), ?_⟩
  refine qO 5 ?_
  refine ZC M 25 (fun w M => c_joined ad c g1 w M.laid hz (Array.getElem?_eq_some_iff.1 (M.get 0 rfl)).1 (cell_av (M.get 0 rfl) (by decide)) (cell_av (M.get 0 rfl) (by decide))) fun u4 M => ?_
  refine nT ?_
  refine ⟨(M.drop (.cons _ (.slnil))), ?_⟩
  refine qO 6 ?_
  refine pC M 26 95 #[.string (otk key nonce), .string (jn ad c)] (.tuple #[.string (tgO key nonce ad c), .int .i64 0]) (fun w M => Pol.c_Tag _ _ (otk_size key nonce) (by have := jn_size ad c; omega) w M.laid) fun u5 M => ?_
  refine nT ?_
  refine ⟨(M.drop (.cons _ (.slnil))), ?_⟩
  have qM := M.drop (.cons _ (.slnil))
  refine qV qM 7 19 (.tuple #[.string (tgO key nonce ad c), .int .i64 0]) ?_
  refine qV qM 8 27 (.string (tgO key nonce ad c)) ?_
  refine qV qM 9 28 (.int .i64 0) ?_
  refine qV qM 10 11 (.string (tgO key nonce ad c)) ?_
  refine qZ ?_
  refine rV 1 ?_
  refine nT ?_
  refine au_then ?_
  refine sq ?_
  refine wp_ret ?_
  exact b1 M

set_option maxRecDepth 100000 in
set_option maxHeartbeats 4000000 in
theorem c_SealA (key nonce ad s : ByteArray) (h : sf key nonce ad s 0 = 0) (w : World) (hL : Laid w)  :
    Calls Tryz.prog 64 #[.string key, .string nonce, .string ad, .string s] w fun r w' => r = .returned (.tuple #[.string (sealS key nonce ad s), .int .i64 0]) ∧ Below w.heap.size w w' := by
  go_enter Tryz.func64, Tryz.ntmps64
  have M := Mem.start hL
  refine sq ?_
  refine wp_seq ?_
  refine sR ?_
  refine rV 4 ?_
  refine ZC M 17 (fun w M => c_fault key nonce ad s 0 (by decide) w M.laid) fun u1 M => ?_
  refine rV 1 ?_
  refine nT ?_
  refine sR ?_
  refine rV 1 ?_
  refine wD 19 h ?_
  refine nT ?_
  refine wp_cond_false (by kernel_rfl) ?_
  refine wp_skip ?_
  refine au_then ?_
  refine sR ?_
  refine rV 3 ?_
  refine ZC M 25 (fun w M => c_Turn1 key nonce s (sf_zero h).1 (by have := sf_zero h; omega) w M.laid) fun u2 M => ?_
  refine rV 5 ?_
  refine nT ?_
  refine sR ?_
  refine rV 5 ?_
  refine ZC M 33 (fun w M => c_tagOf key nonce ad (tn key nonce s) (sf_zero h).1 (by have := sf_zero h; rw [tn_size]; omega) w M.laid) fun u3 M => ?_
  refine pH 34 (.string (sealS key nonce ad s)) (run_cat 9 9 _ _ rfl (tn key nonce s) (tgO key nonce ad (tn key nonce s)) (by kernel_rfl) (by kernel_rfl) (by rw [tn_size, tgO_size]; have := sf_zero h; omega)) ?_
  refine rV 2 ?_
  refine nT ?_
  refine wp_ret ?_
  exact b1 M

set_option maxRecDepth 100000 in
set_option maxHeartbeats 4000000 in
theorem c_SealB (key nonce ad s : ByteArray) (h : sf key nonce ad s 0 ≠ 0) (w : World) (hL : Laid w)  :
    Calls Tryz.prog 64 #[.string key, .string nonce, .string ad, .string s] w fun r w' => r = .returned (.tuple #[.string ⟨#[]⟩, .int .i64 (sf key nonce ad s 0)]) ∧ Below w.heap.size w w' := by
  go_enter Tryz.func64, Tryz.ntmps64
  have M := Mem.start hL
  refine sq ?_
  refine wp_seq ?_
  refine sR ?_
  refine rV 4 ?_
  refine ZC M 17 (fun w M => c_fault key nonce ad s 0 (by decide) w M.laid) fun u1 M => ?_
  refine rV 1 ?_
  refine nT ?_
  refine sR ?_
  refine rV 1 ?_
  refine wU 19 h ?_
  refine nT ?_
  refine wp_cond_true (by kernel_rfl) ?_
  refine sq ?_
  refine wp_ret ?_
  refine au_then_ret ?_
  exact b1 M

theorem cx_size (s : ByteArray) : (s.extract 0 (s.size - 16)).size = s.size - 16 := by
  rw [ByteArray.size_extract]
  omega
/-- The tag that a sealed text should have, and the text that it opens as. -/
def tgX (key nonce ad s : ByteArray) : ByteArray := tgO key nonce ad (s.extract 0 (s.size - 16))
def opS (key nonce s : ByteArray) : ByteArray := tn key nonce (s.extract 0 (s.size - 16))

set_option maxRecDepth 100000 in
set_option maxHeartbeats 4000000 in
theorem c_OpenA (key nonce ad s : ByteArray) (h : sf key nonce ad s 16 = 0) (e : tgX key nonce ad s = s.extract (s.size - 16) s.size) (w : World) (hL : Laid w)  :
    Calls Tryz.prog 67 #[.string key, .string nonce, .string ad, .string s] w fun r w' => r = .returned (.tuple #[.string (opS key nonce s), .int .i64 0]) ∧ Below w.heap.size w w' := by
  go_enter Tryz.func67, Tryz.ntmps67
  have M := Mem.start hL
  have hs16 : 16 ≤ s.size := (sf_zero h).2.2.2
  have hs17 : s.size ≤ 65536 + 16 := (sf_zero h).2.2.1
  refine sq ?_
  refine wp_seq ?_
  refine sR ?_
  refine rV 4 ?_
  refine ZC M 17 (fun w M => c_fault key nonce ad s 16 (by decide) w M.laid) fun u1 M => ?_
  refine rV 1 ?_
  refine nT ?_
  refine sR ?_
  refine rV 1 ?_
  refine wD 19 h ?_
  refine nT ?_
  refine wp_cond_false (by kernel_rfl) ?_
  refine wp_skip ?_
  refine au_then ?_
  refine wp_seq ?_
  refine rgh M [] 11 fun u2 M => ?_
  refine qV M 0 21 (.string s) ?_
  refine qV M 1 22 (.string s) ?_
  refine qV M 2 23 (.int .i64 (s.size : Int)) ?_
  refine qH M 3 24 (.int .i64 ((s.size - 16 : Nat) : Int)) (fun w _ => (fun w => Eq.trans (b := .ok (.value (.int .i64 (IntKind.wrap .i64 ((s.size : Int) - 16)))) w) (by kernel_rfl) (by rw [wrap64 (by omega) (by omega)]; congr 3 <;> omega)) w) ?_
  refine qH M 4 25 (.string (s.extract 0 (s.size - 16))) (fun w _ => (run_strh 9 Tryz.underlying9 _ _ rfl s (by kernel_rfl) .i64 (s.size - 16) (by kernel_rfl) (by omega) _ rfl) w) ?_
  refine qV M 5 26 (.string s) ?_
  refine qV M 6 27 (.string s) ?_
  refine qV M 7 28 (.int .i64 (s.size : Int)) ?_
  refine qH M 8 29 (.int .i64 ((s.size - 16 : Nat) : Int)) (fun w _ => (fun w => Eq.trans (b := .ok (.value (.int .i64 (IntKind.wrap .i64 ((s.size : Int) - 16)))) w) (by kernel_rfl) (by rw [wrap64 (by omega) (by omega)]; congr 3 <;> omega)) w) ?_
  refine qH M 9 30 (.string (s.extract (s.size - 16) s.size)) (fun w _ => (run_strl 9 Tryz.underlying9 _ _ rfl s (by kernel_rfl) .i64 (s.size - 16) (by kernel_rfl) (by omega) _ rfl) w) ?_
  refine qV M 10 11 (.string (s.extract 0 (s.size - 16))) ?_
  refine qZ ?_
  refine rV 1 ?_
  refine nT ?_
  refine au_then ?_
  refine wp_seq ?_
  refine sR ?_
  refine rV 4 ?_
  refine ZC M 35 (fun w M => c_tagOf key nonce ad (s.extract 0 (s.size - 16)) (sf_zero h).1 (by have := sf_zero h; rw [cx_size]; omega) w M.laid) fun u3 M => ?_
  refine rV 1 ?_
  refine pC M 37 84 #[.string (tgX key nonce ad s), .string (s.extract (s.size - 16) s.size)] (.bool true) (fun w M => (by rw [← decide_eq_true e]; exact Pol.c_same _ _ (by show (tgO key nonce ad (s.extract 0 (s.size - 16))).size ≤ _; rw [tgO_size]; decide) w M.laid)) fun u4 M => ?_
  refine rV 1 ?_
  refine nT ?_
  refine wp_cond_false (by kernel_rfl) ?_
  refine wp_skip ?_
  refine au_then ?_
  refine sR ?_
  refine rV 3 ?_
  refine ZC M 42 (fun w M => c_Turn1 key nonce (s.extract 0 (s.size - 16)) (sf_zero h).1 (by have := sf_zero h; rw [cx_size]; omega) w M.laid) fun u5 M => ?_
  refine rV 4 ?_
  refine nT ?_
  refine wp_ret ?_
  exact b1 M

set_option maxRecDepth 100000 in
set_option maxHeartbeats 4000000 in
theorem c_OpenB (key nonce ad s : ByteArray) (h : sf key nonce ad s 16 = 0) (e : tgX key nonce ad s ≠ s.extract (s.size - 16) s.size) (w : World) (hL : Laid w)  :
    Calls Tryz.prog 67 #[.string key, .string nonce, .string ad, .string s] w fun r w' => r = .returned (.tuple #[.string ⟨#[]⟩, .int .i64 100]) ∧ Below w.heap.size w w' := by
  go_enter Tryz.func67, Tryz.ntmps67
  have M := Mem.start hL
  have hs16 : 16 ≤ s.size := (sf_zero h).2.2.2
  have hs17 : s.size ≤ 65536 + 16 := (sf_zero h).2.2.1
  refine sq ?_
  refine wp_seq ?_
  refine sR ?_
  refine rV 4 ?_
  refine ZC M 17 (fun w M => c_fault key nonce ad s 16 (by decide) w M.laid) fun u1 M => ?_
  refine rV 1 ?_
  refine nT ?_
  refine sR ?_
  refine rV 1 ?_
  refine wD 19 h ?_
  refine nT ?_
  refine wp_cond_false (by kernel_rfl) ?_
  refine wp_skip ?_
  refine au_then ?_
  refine wp_seq ?_
  refine rgh M [] 11 fun u2 M => ?_
  refine qV M 0 21 (.string s) ?_
  refine qV M 1 22 (.string s) ?_
  refine qV M 2 23 (.int .i64 (s.size : Int)) ?_
  refine qH M 3 24 (.int .i64 ((s.size - 16 : Nat) : Int)) (fun w _ => (fun w => Eq.trans (b := .ok (.value (.int .i64 (IntKind.wrap .i64 ((s.size : Int) - 16)))) w) (by kernel_rfl) (by rw [wrap64 (by omega) (by omega)]; congr 3 <;> omega)) w) ?_
  refine qH M 4 25 (.string (s.extract 0 (s.size - 16))) (fun w _ => (run_strh 9 Tryz.underlying9 _ _ rfl s (by kernel_rfl) .i64 (s.size - 16) (by kernel_rfl) (by omega) _ rfl) w) ?_
  refine qV M 5 26 (.string s) ?_
  refine qV M 6 27 (.string s) ?_
  refine qV M 7 28 (.int .i64 (s.size : Int)) ?_
  refine qH M 8 29 (.int .i64 ((s.size - 16 : Nat) : Int)) (fun w _ => (fun w => Eq.trans (b := .ok (.value (.int .i64 (IntKind.wrap .i64 ((s.size : Int) - 16)))) w) (by kernel_rfl) (by rw [wrap64 (by omega) (by omega)]; congr 3 <;> omega)) w) ?_
  refine qH M 9 30 (.string (s.extract (s.size - 16) s.size)) (fun w _ => (run_strl 9 Tryz.underlying9 _ _ rfl s (by kernel_rfl) .i64 (s.size - 16) (by kernel_rfl) (by omega) _ rfl) w) ?_
  refine qV M 10 11 (.string (s.extract 0 (s.size - 16))) ?_
  refine qZ ?_
  refine rV 1 ?_
  refine nT ?_
  refine au_then ?_
  refine wp_seq ?_
  refine sR ?_
  refine rV 4 ?_
  refine ZC M 35 (fun w M => c_tagOf key nonce ad (s.extract 0 (s.size - 16)) (sf_zero h).1 (by have := sf_zero h; rw [cx_size]; omega) w M.laid) fun u3 M => ?_
  refine rV 1 ?_
  refine pC M 37 84 #[.string (tgX key nonce ad s), .string (s.extract (s.size - 16) s.size)] (.bool false) (fun w M => (by rw [← decide_eq_false e]; exact Pol.c_same _ _ (by show (tgO key nonce ad (s.extract 0 (s.size - 16))).size ≤ _; rw [tgO_size]; decide) w M.laid)) fun u4 M => ?_
  refine rV 1 ?_
  refine nT ?_
  refine wp_cond_true (by kernel_rfl) ?_
  refine sq ?_
  refine wp_ret ?_
  refine au_then_ret ?_
  exact b1 M

set_option maxRecDepth 100000 in
set_option maxHeartbeats 4000000 in
theorem c_OpenC (key nonce ad s : ByteArray) (h : sf key nonce ad s 16 ≠ 0)  (w : World) (hL : Laid w)  :
    Calls Tryz.prog 67 #[.string key, .string nonce, .string ad, .string s] w fun r w' => r = .returned (.tuple #[.string ⟨#[]⟩, .int .i64 (sf key nonce ad s 16)]) ∧ Below w.heap.size w w' := by
  go_enter Tryz.func67, Tryz.ntmps67
  have M := Mem.start hL
  refine sq ?_
  refine wp_seq ?_
  refine sR ?_
  refine rV 4 ?_
  refine ZC M 17 (fun w M => c_fault key nonce ad s 16 (by decide) w M.laid) fun u1 M => ?_
  refine rV 1 ?_
  refine nT ?_
  refine sR ?_
  refine rV 1 ?_
  refine wU 19 h ?_
  refine nT ?_
  refine wp_cond_true (by kernel_rfl) ?_
  refine sq ?_
  refine wp_ret ?_
  refine au_then_ret ?_
  exact b1 M


end Go.Proofs.YtenafinbaanicaaGreatDoor
namespace Go.Proofs.YtenafinbaanicaaGreatDoor
open Go.RowKit
set_option maxRecDepth 100000

theorem zB_list (n : Nat) : (zB n).data.toList = List.replicate n 0 := by
  unfold zB bs
  simp only [List.map_map]
  apply List.ext_getElem?
  intro i
  by_cases h : i < n
  · simp [h]
  · rw [List.getElem?_eq_none (by simp; omega), List.getElem?_eq_none (by simp; omega)]
theorem pn_shift (a b : Nat) (h : a % 16 = 0) : pn (a + b) = pn b := by
  unfold pn
  omega
def q1 (ad : ByteArray) : ByteArray := ad ++ zB (pn ad.size)
def q2 (ad c : ByteArray) : ByteArray := q1 ad ++ c
def q3 (ad c : ByteArray) : ByteArray := q2 ad c ++ zB (pn c.size)
def q4 (ad c : ByteArray) : ByteArray := q3 ad c ++ wS (ad.size : Int)
theorem q1_size (ad : ByteArray) : (q1 ad).size = ad.size + pn ad.size := by
  unfold q1
  rw [ByteArray.size_append, zB_size]
theorem q2_size (ad c : ByteArray) : (q2 ad c).size = ad.size + pn ad.size + c.size := by
  unfold q2
  rw [ByteArray.size_append, q1_size]
theorem q3_size (ad c : ByteArray) : (q3 ad c).size = ad.size + pn ad.size + c.size + pn c.size := by
  unfold q3
  rw [ByteArray.size_append, q2_size, zB_size]
theorem q4_size (ad c : ByteArray) : (q4 ad c).size = ad.size + pn ad.size + c.size + pn c.size + 8 := by
  unfold q4
  rw [ByteArray.size_append, q3_size, wS_size]
theorem jn_eq (ad c : ByteArray) : q4 ad c ++ wS (c.size : Int) = jn ad c := by
  apply ByteArray.ext
  apply Array.ext'
  show _ = j2 ad c ++ m2 ad c
  unfold q4 q3 q2 q1 j2 m2 m1 j1c j1
  rw [pn_shift _ _ (pn_sum ad.size)]
  simp only [ByteArray.data_append, Array.toList_append, zB_list, List.append_assoc]
theorem dotk (key nonce : ByteArray) (hm : key.size = 32 ∧ nonce.size = 12) : (dbk key nonce 0).extract 0 32 = otk key nonce := by
  unfold otk
  rw [blk_dbk key nonce 0 hm.1 hm.2 (by decide) (by decide)]
theorem d_Turn1 (key nonce s : ByteArray) (hm : key.size = 32 ∧ nonce.size = 12) (hz : s.size ≤ 65536) (w : World) (hL : Laid w) : Calls Tryz.prog 70 #[.string key, .string nonce, .int .u32 1, .string s] w fun r w' => r = .returned (.tuple #[.string (tn key nonce s), .int .i64 0]) ∧ Below w.heap.size w w' := by
  unfold tn
  rw [oS_dT key nonce 1 s hm.1 hm.2 (by decide) (by decide)]
  exact d_TurnA key nonce 1 (by decide) s (by omega) hm (by omega) w hL

set_option maxRecDepth 100000 in
set_option maxHeartbeats 4000000 in
theorem d_tag (key nonce ad c : ByteArray) (hm : key.size = 32 ∧ nonce.size = 12) (hz : ad.size + c.size ≤ 150000) (w : World) (hL : Laid w)  :
    Calls Tryz.prog 71 #[.string key, .string nonce, .string ad, .string c] w fun r w' => r = .returned (.string (tgO key nonce ad c)) ∧ Below w.heap.size w w' := by
  go_enter Tryz.func71, Tryz.ntmps71
  have M := Mem.start hL
  refine sq ?_
  refine wp_seq ?_
  refine rgh M [] 28 fun u1 M => ?_
  refine qV M 0 12 (.string key) ?_
  refine qV M 1 13 (.string nonce) ?_
  refine qV M 4 16 (.string ad) ?_
  refine qV M 5 17 (.string ad) ?_
  refine qV M 8 20 (.string c) ?_
  refine qV M 10 22 (.string c) ?_
  refine qV M 13 25 (.string ad) ?_
  refine qV M 14 26 (.int .i64 (ad.size : Int)) ?_
  refine qH M 15 27 (.int .u64 (ad.size : Int)) (fun w _ => (fun w => Eq.trans (b := .ok (.value (.int .u64 (cv .u64 (ad.size : Int)))) w) (by kernel_rfl) (by rw [cvu64 _ (by omega)])) w) ?_
  refine qV M 18 30 (.string c) ?_
  refine qV M 19 31 (.int .i64 (c.size : Int)) ?_
  refine qH M 20 32 (.int .u64 (c.size : Int)) (fun w _ => (fun w => Eq.trans (b := .ok (.value (.int .u64 (cv .u64 (c.size : Int)))) w) (by kernel_rfl) (by rw [cvu64 _ (by omega)])) w) ?_
  refine qO 2 ?_
  refine ZC M 14 (fun w M => d_Block key nonce 0 hm.1 hm.2 w M.laid) fun u2 M => ?_
  refine nT ?_
  refine ⟨M, ?_⟩
  refine qH M 3 15 (.string (otk key nonce)) (fun w _ => (run_strh 9 Tryz.underlying9 _ _ rfl (dbk key nonce 0) (by kernel_rfl) .i64 32 (by kernel_rfl) (by rw [dbk_size]; decide) _ (dotk key nonce hm)) w) ?_
  refine qO 6 ?_
  refine ZC M 18 (fun w M => d_pad ad w M.laid) fun u3 M => ?_
  refine nT ?_
  refine ⟨M, ?_⟩
  refine qH M 7 19 (.string (q1 ad)) (fun w _ => (run_cat 9 9 _ _ rfl ad (zB (pn ad.size)) (by kernel_rfl) (by kernel_rfl) (by rw [zB_size]; have hpa := pn_lt ad.size; have hpc := pn_lt c.size; omega)) w) ?_
  refine qH M 9 21 (.string (q2 ad c)) (fun w _ => (run_cat 9 9 _ _ rfl (q1 ad) c (by kernel_rfl) (by kernel_rfl) (by rw [q1_size]; have hpa := pn_lt ad.size; have hpc := pn_lt c.size; omega)) w) ?_
  refine qO 11 ?_
  refine ZC M 23 (fun w M => d_pad c w M.laid) fun u4 M => ?_
  refine nT ?_
  refine ⟨M, ?_⟩
  refine qH M 12 24 (.string (q3 ad c)) (fun w _ => (run_cat 9 9 _ _ rfl (q2 ad c) (zB (pn c.size)) (by kernel_rfl) (by kernel_rfl) (by rw [q2_size, zB_size]; have hpa := pn_lt ad.size; have hpc := pn_lt c.size; omega)) w) ?_
  refine qO 16 ?_
  refine pC M 28 72 #[.int .u64 (ad.size : Int)] (.string (wS (ad.size : Int))) (fun w M => d_eight _ w M.laid) fun u5 M => ?_
  refine nT ?_
  refine ⟨M, ?_⟩
  refine qH M 17 29 (.string (q4 ad c)) (fun w _ => (run_cat 9 9 _ _ rfl (q3 ad c) (wS (ad.size : Int)) (by kernel_rfl) (by kernel_rfl) (by rw [q3_size, wS_size]; have hpa := pn_lt ad.size; have hpc := pn_lt c.size; omega)) w) ?_
  refine qO 21 ?_
  refine pC M 33 72 #[.int .u64 (c.size : Int)] (.string (wS (c.size : Int))) (fun w M => d_eight _ w M.laid) fun u6 M => ?_
  refine nT ?_
  refine ⟨M, ?_⟩
  refine qH M 22 34 (.string (jn ad c)) (fun w _ => (fun w => Eq.trans (run_cat 9 9 _ _ rfl (q4 ad c) (wS (c.size : Int)) (by kernel_rfl) (by kernel_rfl) (by rw [q4_size, wS_size]; have hpa := pn_lt ad.size; have hpc := pn_lt c.size; omega) w) (by rw [jn_eq])) w) ?_
  refine qO 23 ?_
  refine pC M 35 88 #[.string (otk key nonce), .string (jn ad c)] (.tuple #[.string (tgO key nonce ad c), .int .i64 0]) (fun w M => Pol.d_Tag _ _ (otk_size key nonce) (by have := jn_size ad c; omega) w M.laid) fun u7 M => ?_
  refine nT ?_
  refine ⟨M, ?_⟩
  refine qV M 24 11 (.tuple #[.string (tgO key nonce ad c), .int .i64 0]) ?_
  refine qV M 25 36 (.string (tgO key nonce ad c)) ?_
  refine qV M 26 37 (.int .i64 0) ?_
  refine qV M 27 9 (.string (tgO key nonce ad c)) ?_
  refine qZ ?_
  refine rV 1 ?_
  refine nT ?_
  refine au_then ?_
  refine sq ?_
  refine wp_ret ?_
  exact b1 M

set_option maxRecDepth 100000 in
set_option maxHeartbeats 4000000 in
theorem d_SealA (key nonce ad s : ByteArray) (hm : key.size = 32 ∧ nonce.size = 12) (hz : ad.size + s.size ≤ 5000)  (w : World) (hL : Laid w)  :
    Calls Tryz.prog 50 #[.string key, .string nonce, .string ad, .string s] w fun r w' => r = .returned (.tuple #[.string (sealS key nonce ad s), .int .i64 0]) ∧ Below w.heap.size w w' := by
  go_enter Tryz.func50, Tryz.ntmps50
  have M := Mem.start hL
  refine sq ?_
  refine wp_seq ?_
  refine sR ?_
  refine rV 2 ?_
  refine pC M 14 69 #[.string key, .string nonce] (.bool true) (fun w M => (by rw [← decide_eq_true hm]; exact d_may key nonce w M.laid)) fun u1 M => ?_
  refine rV 1 ?_
  refine nT ?_
  refine wp_cond_false (by kernel_rfl) ?_
  refine wp_skip ?_
  refine au_then ?_
  refine wp_seq ?_
  refine sR ?_
  refine rV 2 ?_
  refine ZF 18 ((65536 : Int) < (ad.size : Int)) ?_
  refine rV 3 ?_
  refine ZF 22 ((65536 : Int) < (s.size : Int)) ?_
  refine rV 1 ?_
  refine nT ?_
  refine wp_cond_false (by kernel_rfl) ?_
  refine wp_skip ?_
  refine au_then ?_
  refine sR ?_
  refine rV 3 ?_
  refine ZC M 28 (fun w M => d_Turn1 key nonce s hm (by omega) w M.laid) fun u2 M => ?_
  refine rV 5 ?_
  refine nT ?_
  refine sR ?_
  refine rV 5 ?_
  refine ZC M 36 (fun w M => d_tag key nonce ad (tn key nonce s) hm (by rw [tn_size]; omega) w M.laid) fun u3 M => ?_
  refine pH 37 (.string (sealS key nonce ad s)) (run_cat 9 9 _ _ rfl (tn key nonce s) (tgO key nonce ad (tn key nonce s)) (by kernel_rfl) (by kernel_rfl) (by rw [tn_size, tgO_size]; omega)) ?_
  refine rV 2 ?_
  refine nT ?_
  refine wp_ret ?_
  exact b1 M

set_option maxRecDepth 100000 in
set_option maxHeartbeats 4000000 in
theorem d_SealB (key nonce ad s : ByteArray) (hm : ¬ (key.size = 32 ∧ nonce.size = 12))  (w : World) (hL : Laid w)  :
    Calls Tryz.prog 50 #[.string key, .string nonce, .string ad, .string s] w fun r w' => r = .returned (.tuple #[.string ⟨#[]⟩, .int .i64 2]) ∧ Below w.heap.size w w' := by
  go_enter Tryz.func50, Tryz.ntmps50
  have M := Mem.start hL
  refine sq ?_
  refine wp_seq ?_
  refine sR ?_
  refine rV 2 ?_
  refine pC M 14 69 #[.string key, .string nonce] (.bool false) (fun w M => (by rw [← decide_eq_false hm]; exact d_may key nonce w M.laid)) fun u1 M => ?_
  refine rV 1 ?_
  refine nT ?_
  refine wp_cond_true (by kernel_rfl) ?_
  refine sq ?_
  refine wp_ret ?_
  refine au_then_ret ?_
  exact b1 M

set_option maxRecDepth 100000 in
set_option maxHeartbeats 4000000 in
theorem d_OpenD (key nonce ad s : ByteArray) (hm : ¬ (key.size = 32 ∧ nonce.size = 12))  (w : World) (hL : Laid w)  :
    Calls Tryz.prog 54 #[.string key, .string nonce, .string ad, .string s] w fun r w' => r = .returned (.tuple #[.string ⟨#[]⟩, .int .i64 2]) ∧ Below w.heap.size w w' := by
  go_enter Tryz.func54, Tryz.ntmps54
  have M := Mem.start hL
  refine sq ?_
  refine wp_seq ?_
  refine sR ?_
  refine rV 2 ?_
  refine pC M 15 69 #[.string key, .string nonce] (.bool false) (fun w M => (by rw [← decide_eq_false hm]; exact d_may key nonce w M.laid)) fun u1 M => ?_
  refine rV 1 ?_
  refine nT ?_
  refine wp_cond_true (by kernel_rfl) ?_
  refine sq ?_
  refine wp_ret ?_
  refine au_then_ret ?_
  exact b1 M

set_option maxRecDepth 100000 in
set_option maxHeartbeats 4000000 in
theorem d_OpenA (key nonce ad s : ByteArray) (hm : key.size = 32 ∧ nonce.size = 12) (hz : ad.size + s.size ≤ 5000) (h : ¬ s.size < 16) (e : tgX key nonce ad s = s.extract (s.size - 16) s.size) (w : World) (hL : Laid w)  :
    Calls Tryz.prog 54 #[.string key, .string nonce, .string ad, .string s] w fun r w' => r = .returned (.tuple #[.string (opS key nonce s), .int .i64 0]) ∧ Below w.heap.size w w' := by
  go_enter Tryz.func54, Tryz.ntmps54
  have M := Mem.start hL
  refine sq ?_
  refine wp_seq ?_
  refine sR ?_
  refine rV 2 ?_
  refine pC M 15 69 #[.string key, .string nonce] (.bool true) (fun w M => (by rw [← decide_eq_true hm]; exact d_may key nonce w M.laid)) fun u1 M => ?_
  refine rV 1 ?_
  refine nT ?_
  refine wp_cond_false (by kernel_rfl) ?_
  refine wp_skip ?_
  refine au_then ?_
  refine wp_seq ?_
  refine sR ?_
  refine rV 2 ?_
  refine ZF 19 ((65536 : Int) < (ad.size : Int)) ?_
  refine rV 3 ?_
  refine ZF 23 ((65552 : Int) < (s.size : Int)) ?_
  refine rV 1 ?_
  refine nT ?_
  refine wp_cond_false (by kernel_rfl) ?_
  refine wp_skip ?_
  refine au_then ?_
  refine wp_seq ?_
  refine sR ?_
  refine rV 2 ?_
  refine ZF 27 ((s.size : Int) < 16) ?_
  refine nT ?_
  refine wp_cond_false (by kernel_rfl) ?_
  refine wp_skip ?_
  refine au_then ?_
  refine sR ?_
  refine rV 3 ?_
  refine ZI 31 ((s.size : Int) - 16) ((s.size - 16 : Nat) : Int) ?_
  refine pH 32 (.string (s.extract 0 (s.size - 16))) (run_strh 9 Tryz.underlying9 _ _ rfl s (by kernel_rfl) .i64 (s.size - 16) (by kernel_rfl) (by omega) _ rfl) ?_
  refine rV 1 ?_
  refine nT ?_
  refine wp_seq ?_
  refine wp_seq ?_
  refine rgh M [] 10 fun u2 M => ?_
  refine qV M 0 33 (.string key) ?_
  refine qV M 1 34 (.string nonce) ?_
  refine qV M 2 35 (.string ad) ?_
  refine qV M 3 36 (.string (s.extract 0 (s.size - 16))) ?_
  refine qV M 5 38 (.string s) ?_
  refine qV M 6 39 (.string s) ?_
  refine qV M 7 40 (.int .i64 (s.size : Int)) ?_
  refine qH M 8 41 (.int .i64 ((s.size - 16 : Nat) : Int)) (fun w _ => (fun w => Eq.trans (b := .ok (.value (.int .i64 (IntKind.wrap .i64 ((s.size : Int) - 16)))) w) (by kernel_rfl) (by rw [wrap64 (by omega) (by omega)]; congr 3 <;> omega)) w) ?_
  refine qH M 9 42 (.string (s.extract (s.size - 16) s.size)) (fun w _ => (run_strl 9 Tryz.underlying9 _ _ rfl s (by kernel_rfl) .i64 (s.size - 16) (by kernel_rfl) (by omega) _ rfl) w) ?_
  refine qO 4 ?_
  refine ZC M 37 (fun w M => d_tag key nonce ad (s.extract 0 (s.size - 16)) hm (by rw [cx_size]; omega) w M.laid) fun u3 M => ?_
  refine nT ?_
  refine ⟨M, ?_⟩
  refine qZ ?_
  refine zJ 43 (.bool false) (.bool (!((tgX key nonce ad s).toList == (s.extract (s.size - 16) s.size).toList))) (by rw [e, beq_self_eq_true]; rfl) ?_
  refine nT ?_
  refine au_then ?_
  refine wp_cond_false (by kernel_rfl) ?_
  refine wp_skip ?_
  refine au_then ?_
  refine sR ?_
  refine rV 3 ?_
  refine ZC M 48 (fun w M => d_Turn1 key nonce (s.extract 0 (s.size - 16)) hm (by rw [cx_size]; omega) w M.laid) fun u4 M => ?_
  refine rV 5 ?_
  refine nT ?_
  refine sq ?_
  refine wp_ret ?_
  exact b1 M

set_option maxRecDepth 100000 in
set_option maxHeartbeats 4000000 in
theorem d_OpenB (key nonce ad s : ByteArray) (hm : key.size = 32 ∧ nonce.size = 12) (hz : ad.size + s.size ≤ 5000) (h : ¬ s.size < 16) (e : tgX key nonce ad s ≠ s.extract (s.size - 16) s.size) (w : World) (hL : Laid w)  :
    Calls Tryz.prog 54 #[.string key, .string nonce, .string ad, .string s] w fun r w' => r = .returned (.tuple #[.string ⟨#[]⟩, .int .i64 100]) ∧ Below w.heap.size w w' := by
  go_enter Tryz.func54, Tryz.ntmps54
  have M := Mem.start hL
  refine sq ?_
  refine wp_seq ?_
  refine sR ?_
  refine rV 2 ?_
  refine pC M 15 69 #[.string key, .string nonce] (.bool true) (fun w M => (by rw [← decide_eq_true hm]; exact d_may key nonce w M.laid)) fun u1 M => ?_
  refine rV 1 ?_
  refine nT ?_
  refine wp_cond_false (by kernel_rfl) ?_
  refine wp_skip ?_
  refine au_then ?_
  refine wp_seq ?_
  refine sR ?_
  refine rV 2 ?_
  refine ZF 19 ((65536 : Int) < (ad.size : Int)) ?_
  refine rV 3 ?_
  refine ZF 23 ((65552 : Int) < (s.size : Int)) ?_
  refine rV 1 ?_
  refine nT ?_
  refine wp_cond_false (by kernel_rfl) ?_
  refine wp_skip ?_
  refine au_then ?_
  refine wp_seq ?_
  refine sR ?_
  refine rV 2 ?_
  refine ZF 27 ((s.size : Int) < 16) ?_
  refine nT ?_
  refine wp_cond_false (by kernel_rfl) ?_
  refine wp_skip ?_
  refine au_then ?_
  refine sR ?_
  refine rV 3 ?_
  refine ZI 31 ((s.size : Int) - 16) ((s.size - 16 : Nat) : Int) ?_
  refine pH 32 (.string (s.extract 0 (s.size - 16))) (run_strh 9 Tryz.underlying9 _ _ rfl s (by kernel_rfl) .i64 (s.size - 16) (by kernel_rfl) (by omega) _ rfl) ?_
  refine rV 1 ?_
  refine nT ?_
  refine wp_seq ?_
  refine wp_seq ?_
  refine rgh M [] 10 fun u2 M => ?_
  refine qV M 0 33 (.string key) ?_
  refine qV M 1 34 (.string nonce) ?_
  refine qV M 2 35 (.string ad) ?_
  refine qV M 3 36 (.string (s.extract 0 (s.size - 16))) ?_
  refine qV M 5 38 (.string s) ?_
  refine qV M 6 39 (.string s) ?_
  refine qV M 7 40 (.int .i64 (s.size : Int)) ?_
  refine qH M 8 41 (.int .i64 ((s.size - 16 : Nat) : Int)) (fun w _ => (fun w => Eq.trans (b := .ok (.value (.int .i64 (IntKind.wrap .i64 ((s.size : Int) - 16)))) w) (by kernel_rfl) (by rw [wrap64 (by omega) (by omega)]; congr 3 <;> omega)) w) ?_
  refine qH M 9 42 (.string (s.extract (s.size - 16) s.size)) (fun w _ => (run_strl 9 Tryz.underlying9 _ _ rfl s (by kernel_rfl) .i64 (s.size - 16) (by kernel_rfl) (by omega) _ rfl) w) ?_
  refine qO 4 ?_
  refine ZC M 37 (fun w M => d_tag key nonce ad (s.extract 0 (s.size - 16)) hm (by rw [cx_size]; omega) w M.laid) fun u3 M => ?_
  refine nT ?_
  refine ⟨M, ?_⟩
  refine qZ ?_
  refine zJ 43 (.bool true) (.bool (!((tgX key nonce ad s).toList == (s.extract (s.size - 16) s.size).toList))) (by rw [Pol.toList_ne e]; rfl) ?_
  refine nT ?_
  refine au_then ?_
  refine wp_cond_true (by kernel_rfl) ?_
  refine sq ?_
  refine wp_ret ?_
  refine au_then_ret ?_
  exact b1 M

set_option maxRecDepth 100000 in
set_option maxHeartbeats 4000000 in
theorem d_OpenC (key nonce ad s : ByteArray) (hm : key.size = 32 ∧ nonce.size = 12) (hz : ad.size + s.size ≤ 5000) (h : s.size < 16) (w : World) (hL : Laid w)  :
    Calls Tryz.prog 54 #[.string key, .string nonce, .string ad, .string s] w fun r w' => r = .returned (.tuple #[.string ⟨#[]⟩, .int .i64 100]) ∧ Below w.heap.size w w' := by
  go_enter Tryz.func54, Tryz.ntmps54
  have M := Mem.start hL
  refine sq ?_
  refine wp_seq ?_
  refine sR ?_
  refine rV 2 ?_
  refine pC M 15 69 #[.string key, .string nonce] (.bool true) (fun w M => (by rw [← decide_eq_true hm]; exact d_may key nonce w M.laid)) fun u1 M => ?_
  refine rV 1 ?_
  refine nT ?_
  refine wp_cond_false (by kernel_rfl) ?_
  refine wp_skip ?_
  refine au_then ?_
  refine wp_seq ?_
  refine sR ?_
  refine rV 2 ?_
  refine ZF 19 ((65536 : Int) < (ad.size : Int)) ?_
  refine rV 3 ?_
  refine ZF 23 ((65552 : Int) < (s.size : Int)) ?_
  refine rV 1 ?_
  refine nT ?_
  refine wp_cond_false (by kernel_rfl) ?_
  refine wp_skip ?_
  refine au_then ?_
  refine wp_seq ?_
  refine sR ?_
  refine rV 2 ?_
  refine ZT 27 ((s.size : Int) < 16) ?_
  refine nT ?_
  refine wp_cond_true (by kernel_rfl) ?_
  refine sq ?_
  refine wp_ret ?_
  refine au_then_ret ?_
  exact b1 M


end Go.Proofs.YtenafinbaanicaaGreatDoor
namespace Go.Proofs.YtenafinbaanicaaGreatDoor
open Go.RowKit
set_option maxRecDepth 100000

theorem xb_xb (x k : Int) (h0 : 0 ≤ x) (h1 : x < 256) : xb (xb x k) k = x := by
  obtain ⟨a, rfl⟩ : ∃ a : Nat, x = (a : Int) := ⟨x.toNat, by omega⟩
  have hw : ∀ b : BitVec 8, IntKind.wrap .u8 (b.toNat : Int) = (b.toNat : Int) := fun b => by
    have := b.isLt
    simp [IntKind.wrap, IntKind.signed, IntKind.bits]
    omega
  have ho : ∀ b : BitVec 8, BitVec.ofInt 8 (b.toNat : Int) = b := fun b => by
    apply BitVec.eq_of_toNat_eq
    rw [BitVec.toNat_ofInt]
    have := b.isLt
    omega
  unfold xb
  rw [hw, hw, ho, BitVec.xor_assoc, BitVec.xor_self, BitVec.xor_zero, BitVec.toNat_ofInt]
  omega
theorem bt_oS (f : Nat → Int) (s : ByteArray) (i : Nat) (h : i < s.size) : bt (oS f s) i = ob f s i := by
  rw [oS_bs, bt_bs _ (fun x hx => by obtain ⟨j, _, rfl⟩ := List.mem_map.1 hx; exact ob_nn f s j), List.getD_eq_getElem?_getD, List.getElem?_map, List.getElem?_range h]
  rfl
theorem sb_map (s : ByteArray) : sb s = (List.range s.size).map (bt s) := by
  rw [dl_zero s (bt s)]
  exact List.map_congr_left fun i _ => if_neg (by omega)
/-- What is turned twice is the text. -/
theorem oS_oS (f : Nat → Int) (s : ByteArray) : oS f (oS f s) = s := by
  rw [oS_bs, oS_size]
  have e : (List.range s.size).map (ob f (oS f s)) = (List.range s.size).map (bt s) := List.map_congr_left fun i hi => by
    have hb := bt_nn s i
    show xb (bt (oS f s) i) (bl (sw f (i / 64)) (i % 64)) = _
    rw [bt_oS f s i (List.mem_range.1 hi)]
    exact xb_xb _ _ hb.1 hb.2
  rw [e, ← sb_map, bs_sb]
def lf (L : List Int) : Nat → Int := fun t => L.getD t 0
theorem mx_lit (L L' : List Int) (p0 p1 p2 p3 : Nat) (hp : p0 < 16 ∧ p1 < 16 ∧ p2 < 16 ∧ p3 < 16) (hL : L.length = 16) (hL' : L'.length = 16) (h : ((List.range 16).all fun t => mxF (lf L) p0 p1 p2 p3 t == lf L' t) = true) : mxF (lf L) p0 p1 p2 p3 = lf L' := by
  funext t
  by_cases ht : t < 16
  · exact eq_of_beq (List.all_eq_true.1 h t (List.mem_range.2 ht))
  · have e : ∀ M : List Int, M.length = 16 → lf M t = 0 := fun M hM => by
      unfold lf
      rw [List.getD_eq_getElem?_getD, List.getElem?_eq_none (by omega)]
      rfl
    rw [e L' hL']
    unfold mxF
    rw [up_ne _ _ _ (by omega), up_ne _ _ _ (by omega), up_ne _ _ _ (by omega), up_ne _ _ _ (by omega), e L hL]
theorem ext_left (a b : ByteArray) : (a ++ b).extract 0 a.size = a := by
  apply ByteArray.ext
  rw [ByteArray.data_extract, ByteArray.data_append]
  show (a.data ++ b.data).extract 0 a.data.size = a.data
  rw [Array.extract_append]
  simp
theorem ext_right (a b : ByteArray) : (a ++ b).extract a.size (a ++ b).size = b := by
  apply ByteArray.ext
  rw [ByteArray.data_extract, ByteArray.data_append, ByteArray.size_append]
  show (a.data ++ b.data).extract a.data.size (a.data.size + b.data.size) = b.data
  rw [Array.extract_append, Array.extract_empty_of_size_le_start (Nat.le_refl _), Array.empty_append, Nat.sub_self, Nat.add_sub_cancel_left]
  exact Array.extract_size
theorem seal_cx (key nonce ad s : ByteArray) : (sealS key nonce ad s).extract 0 ((sealS key nonce ad s).size - 16) = tn key nonce s := by
  have h : (sealS key nonce ad s).size - 16 = (tn key nonce s).size := by
    rw [sealS_size, tn_size]
    omega
  rw [h]
  exact ext_left _ _
theorem seal_tx (key nonce ad s : ByteArray) : (sealS key nonce ad s).extract ((sealS key nonce ad s).size - 16) (sealS key nonce ad s).size = tgO key nonce ad (tn key nonce s) := by
  have h : (sealS key nonce ad s).size - 16 = (tn key nonce s).size := by
    rw [sealS_size, tn_size]
    omega
  rw [h]
  exact ext_right _ _
/-- What was sealed has its tag, and opens as the text. -/
theorem seal_tg (key nonce ad s : ByteArray) : tgX key nonce ad (sealS key nonce ad s) = (sealS key nonce ad s).extract ((sealS key nonce ad s).size - 16) (sealS key nonce ad s).size := by
  unfold tgX
  rw [seal_cx, seal_tx]
theorem seal_op (key nonce ad s : ByteArray) : opS key nonce (sealS key nonce ad s) = s := by
  unfold opS
  rw [seal_cx]
  exact oS_oS _ _
theorem seal_ok {key nonce ad s : ByteArray} (h : sf key nonce ad s 0 = 0) : sf key nonce ad (sealS key nonce ad s) 16 = 0 := by
  obtain ⟨h1, h2, h3, h4⟩ := sf_zero h
  exact sf_ok h1 h2 (by rw [sealS_size]; omega) (by rw [sealS_size]; omega)
/-- What was sealed is opened as the text. -/
theorem c_back1 (key nonce ad s : ByteArray) (h : sf key nonce ad s 0 = 0) (w : World) (hL : Laid w) : Calls Tryz.prog 67 #[.string key, .string nonce, .string ad, .string (sealS key nonce ad s)] w fun r w' => r = .returned (.tuple #[.string s, .int .i64 0]) ∧ Below w.heap.size w w' := by
  have h2 := c_OpenA key nonce ad (sealS key nonce ad s) (seal_ok h) (seal_tg key nonce ad s) w hL
  rw [seal_op] at h2
  exact h2

end Go.Proofs.YtenafinbaanicaaGreatDoor
namespace Go.Proofs.YtenafinbaanicaaGreatDoor
open Go.RowKit
set_option maxRecDepth 100000

/-- Listed cells. -/
def ls (l : List Value) : Nat → Value := fun i => l.getD i undef
theorem getD_app (l : List Value) (j : Nat) : l.getD j undef = l[j]?.getD undef := by simp
theorem part_ls (l : List Value) (off n : Nat) (l' : List Value) (h : (l.drop off).take n = l') (j : Nat) (hj : j < n) : ls l (off + j) = ls l' j := by
  subst h
  unfold ls
  rw [getD_app, getD_app, List.getElem?_take, if_pos hj, List.getElem?_drop]
theorem put_ls (l : List Value) (k : Nat) (v : Value) (l' : List Value) (h : l.set k v = l') {n : Nat} (j : Nat) (hj : j < n) (hl : n ≤ l.length := by exact Nat.le_of_ble_eq_true rfl) : (if j = k then v else ls l j) = ls l' j := by
  subst h
  unfold ls
  rw [getD_app, getD_app, List.getElem?_set]
  by_cases e : k = j
  · subst e
    rw [if_pos rfl, if_pos rfl, if_pos (by omega)]
    rfl
  · rw [if_neg (fun h => e h.symm), if_neg e]
theorem putp_ls (l m : List Value) (off : Nat) (l' : List Value) (h : l.take off ++ m ++ l.drop (off + m.length) = l') {n : Nat} (hl : n ≤ l.length ∧ off + m.length ≤ l.length) (j : Nat) (hj : j < n) : (if off ≤ j ∧ j < off + m.length then ls m (j - off) else ls l j) = ls l' j := by
  subst h
  unfold ls
  simp only [getD_app]
  have e1 : (l.take off).length = off := by simp; omega
  by_cases c : off ≤ j ∧ j < off + m.length
  · rw [if_pos c, List.append_assoc, List.getElem?_append_right (by omega), e1, List.getElem?_append_left (by omega)]
  · rw [if_neg c]
    by_cases d : j < off
    · rw [List.append_assoc, List.getElem?_append_left (by omega), List.getElem?_take, if_pos d]
    · rw [List.getElem?_append_right (by simp; omega), List.getElem?_drop]
      congr 2
      simp
      omega
theorem one_ls (l : List Value) (h : l.all (·.oneCell') = true) {n : Nat} (hn : n ≤ l.length := by exact Nat.le_of_ble_eq_true rfl) (j : Nat) (hj : j < n) : (ls l j).oneCell' = true := by
  unfold ls
  rw [getD_app, List.getElem?_eq_getElem (by omega)]
  exact List.all_eq_true.1 h _ (List.getElem_mem _)
theorem sb_ls (l : List Int) (T : TypeId) {n : Nat} (hn : n = l.length := by rfl) : SB (.cells (av n (ls (vs8 l))) T) n (vs8 l) := by
  subst hn
  refine ⟨_, T, (0, 0), rfl, by simp [vs8], by rw [av_size]; exact Nat.le_refl _, fun i hi => ?_, fun i _ => by simp⟩
  rw [vs8_length] at hi
  rw [av_get _ _ _ hi]
  unfold ls
  rw [getD_app, List.getElem?_eq_getElem (by rw [vs8_length]; exact hi)]
  rfl
theorem seq_pos {a b : ByteArray} (h : a = b) : (a.toList == b.toList) = true := by rw [h, beq_self_eq_true]
theorem seq_neg {a b : ByteArray} (h : ¬ a = b) : (a.toList == b.toList) = false := by
  rw [beq_eq_false_iff_ne]
  intro e
  rw [ByteArray.toList_eq, ByteArray.toList_eq] at e
  exact h (ByteArray.ext (Array.toList_inj.1 e))
theorem call_val {P : Program} {f : FuncId} {args : Array Value} {w : World} {v v' : Value} {X : World → Prop} (h : Calls P f args w fun e w' => e = .returned v ∧ X w') (hv : v = v') : Calls P f args w fun e w' => e = .returned v' ∧ X w' := hv ▸ h
theorem nat_of {k : IntKind} {x : Int} {v : Value} (h : v = .int k x) (h0 : 0 ≤ x) : v = .int k (x.toNat : Int) := by rw [h, Int.toNat_of_nonneg h0]
theorem ro_below1 {w w' : World} {g : Nat} {Z : Obj} (h : Grw w w' [g]) (h0 : w.heap[g]? = some Z) (h1 : w'.heap[g]? = some Z) : Below w.heap.size w w' := ⟨h.os, h.tape, h.output, h.size, fun k hk => by
  by_cases e : k = g
  · subst e
    rw [h0, h1]
  · exact h.block k hk (by simpa using e)⟩
theorem cv_u8 (x : Int) : cv .u8 x = x % 256 := by
  unfold cv
  simp [IntKind.wrap, IntKind.signed, IntKind.bits]
theorem cv_u16 (x : Int) : cv .u16 x = x % 65536 := by
  unfold cv
  simp [IntKind.wrap, IntKind.signed, IntKind.bits]
theorem cv_u32 (x : Int) : cv .u32 x = x % 4294967296 := by
  unfold cv
  simp [IntKind.wrap, IntKind.signed, IntKind.bits]
theorem cv_u64 (x : Int) : cv .u64 x = x % 18446744073709551616 := by
  unfold cv
  simp [IntKind.wrap, IntKind.signed, IntKind.bits]
section
variable {P : Program} {ops : Array Oper} {o o2 o3 : Oper} {a : Act} {w : World} {Q : Exit → Act → World → Prop} {S : World → Prop} {n fuel : Nat} {listed : Array Bool}
theorem hl_name (h : ∀ H : Nat → Array Bool → Act → World → Prop, (∀ f l a w, H f l a w → HL P ops Q S n f l a w) → (∀ f l a w, HL P ops Q S n f l a w → H f l a w) → H fuel listed a w) : HL P ops Q S n fuel listed a w := h _ (fun _ _ _ _ h => h) (fun _ _ _ _ h => h)
/-- Number i, number j or number k may come up. -/
theorem hl_three (i j k : Nat) (hin : i < n) (hjn : j < n) (hkn : k < n) (hr : Region.ready .any ops listed = [i, j, k]) (hi : ops.toList[i]? = some o) (hj : ops.toList[j]? = some o2) (hk : ops.toList[k]? = some o3)
    (h : PL P ops (Exit.then (fun a' w' => S w' ∧ HL P ops Q S n fuel (listed.setIfInBounds i true) a' w') Q) [o] a w)
    (h2 : PL P ops (Exit.then (fun a' w' => S w' ∧ HL P ops Q S n fuel (listed.setIfInBounds j true) a' w') Q) [o2] a w)
    (h3 : PL P ops (Exit.then (fun a' w' => S w' ∧ HL P ops Q S n fuel (listed.setIfInBounds k true) a' w') Q) [o3] a w) : HL P ops Q S n (fuel + 1) listed a w := by
  refine ⟨fun hQ hB inv => ⟨fun h0 => (by rw [hr] at h0; cases h0), fun m hm => ?_⟩⟩
  have hm' := hm
  rw [hr] at hm
  rcases List.mem_cons.1 hm with rfl | hm
  · exact wpOp_mono (fun a' w' h3 => ⟨fun _ => h3.1, h3.2.out hQ hB (inv.set hm' hin)⟩) (wpOp_one (by rw [← Array.getElem?_toList]; exact hi) h.out)
  rcases List.mem_cons.1 hm with rfl | hm
  · exact wpOp_mono (fun a' w' h3 => ⟨fun _ => h3.1, h3.2.out hQ hB (inv.set hm' hjn)⟩) (wpOp_one (by rw [← Array.getElem?_toList]; exact hj) h2.out)
  · obtain rfl := List.mem_singleton.1 hm
    exact wpOp_mono (fun a' w' h3 => ⟨fun _ => h3.1, h3.2.out hQ hB (inv.set hm' hkn)⟩) (wpOp_one (by rw [← Array.getElem?_toList]; exact hk) h3.out)
end
theorem cut_at {P : Program} {x : Code} {K I : Act → World → Prop} {Q : Exit → Act → World → Prop} {a : Act} {w : World} (h1 : x.wp P (Exit.then I Q) a w) (h2 : ∀ a w, I a w → K a w) : x.wp P (Exit.then K Q) a w :=
  wp_mono h1 fun e a w h => by
    cases e <;> first | exact h2 _ _ h | exact h
theorem sz_mk (a : Array UInt8) : (⟨a⟩ : ByteArray).size = a.size := rfl
theorem if_max (x y : Int) : (if y > x then y else x) = max x y := by
  rw [Int.max_def]
  split <;> split <;> omega
theorem run_shlX {P : Program} {a : Act} {o : Oper} (t rt : TypeId) (x y : Operand) (ho : o.op = .binOp .shl t x y rt) (k : Int) (ky : IntKind) (m : Nat) (hx : a.eval x = .int .u64 k) (hy : a.eval y = .int ky (m : Int)) (w : World) :
    (execOp a.eval o).run P w = .ok (.value (.int .u64 (sl k m))) w := by
  by_cases hm : m ≤ 64
  · exact Pol.run_shlU t rt x y ho k ky m hx hy hm w
  · have e : IntKind.wrap .u64 (k * 2 ^ min m 64) = IntKind.wrap .u64 (k * 2 ^ m) := by
      obtain ⟨n, rfl⟩ : ∃ n, m = n + 64 := ⟨m - 64, by omega⟩
      rw [IntKind.wrap_u64, IntKind.wrap_u64, Nat.min_eq_right (by omega), Int.pow_add, ← Int.mul_assoc]
      have : (2 : Int) ^ 64 = 18446744073709551616 := rfl
      rw [this, Int.mul_emod_left, Int.mul_emod_left]
    unfold execOp sl
    rw [← e]
    simp [ho, hx, hy, eqGuard, binOp, Op.shift, IntKind.bits]
    intro h
    omega
theorem results_t3 {P : Program} {fn : Func} {p q r : Tmp} (h : fn.results = #[.tmp p, .tmp q, .tmp r]) (tmps : Array Value) (w : World) (v u x : Value) (hp : tmps.getD p undef = v) (hq : tmps.getD q undef = u) (hr : tmps.getD r undef = x) : (results fn tmps).run P w = .ok (.tuple #[v, u, x]) w := by
  subst hp hq hr
  simp [results, h]
/-- These blocks are there, no two of them one, none of them a package variable's. -/
structure There (w : World) (T : List Blk) : Prop where
  at_ : ∀ b ∈ T, w.heap[b.g]? = some b.Z
  nodup : (T.map Blk.g).Nodup
  ne : ∀ b ∈ T, 1 < b.g
theorem Mem.startT {w : World} {T : List Blk} (hL : Laid w) (h : There w T) : Mem ⟨w, T.map Blk.g⟩ T w :=
  ⟨grown_refl _ _, h.at_, fun b hb => .inr (List.mem_map_of_mem hb), h.nodup, hL, fun k hk => by obtain ⟨b, hb, rfl⟩ := List.mem_map.1 hk; exact h.ne b hb⟩
theorem Mem.there {c : Ctx} {L T : List Blk} {W : World} (M : Mem c L W) (h : T.Sublist L) : There W T := ⟨fun b hb => M.at_ b (h.subset hb), M.nodup.sublist (h.map _), fun b hb => by
  rcases M.ge b (h.subset hb) with h1 | h1
  · exact Nat.lt_of_lt_of_le M.lay.lt h1
  · exact M.ne _ h1⟩
theorem There.sub {w : World} {T T' : List Blk} (h : There w T) (hs : T'.Sublist T) : There w T' := ⟨fun b hb => h.at_ b (hs.subset hb), h.nodup.sublist (hs.map _), fun b hb => h.ne b (hs.subset hb)⟩
theorem There.perm {w : World} {T T' : List Blk} (h : There w T) (hs : T.Perm T') : There w T' := ⟨fun b hb => h.at_ b (hs.mem_iff.2 hb), (hs.map _).nodup_iff.1 h.nodup, fun b hb => h.ne b (hs.mem_iff.2 hb)⟩
theorem ro_T {w W : World} {T : List Blk} (h : There w T) (M : Mem ⟨w, T.map Blk.g⟩ T W) : Below w.heap.size w W := ⟨M.old.os, M.old.tape, M.old.output, M.old.size, fun k hk => by
  by_cases e : k ∈ T.map Blk.g
  · obtain ⟨b, hb, rfl⟩ := List.mem_map.1 e
    rw [h.at_ b hb, M.at_ b hb]
  · exact M.old.block k hk e⟩
/-- What a call may leave of the blocks T. -/
structure OkT (w w' : World) (T T' : List Blk) : Prop where
  grw : Grw w w' (T.map Blk.g)
  at_ : ∀ b ∈ T', w'.heap[b.g]? = some b.Z
  nodup : (T'.map Blk.g).Nodup
  ge : ∀ b ∈ T', b.g ∈ T.map Blk.g ∨ w.heap.size ≤ b.g
theorem Mem.okT0 {w : World} {T T' : List Blk} {W : World} (M : Mem ⟨w, T.map Blk.g⟩ T' W) : OkT w W T T' := ⟨M.old, M.at_, M.nodup, fun b hb => (M.ge b hb).symm⟩
theorem okT_below {w w' : World} {T : List Blk} (h : There w T) (hb : Below w.heap.size w w') : OkT w w' T T := ⟨grown_below hb _, fun b hb' => by
  have := h.at_ b hb'
  rw [hb.block _ (Array.getElem?_eq_some_iff.1 this).1]
  exact this, h.nodup, fun b hb => .inl (List.mem_map_of_mem hb)⟩
theorem below_okT {w w' : World} {T' : List Blk} (h : OkT w w' [] T') : Below w.heap.size w w' := below_grown h.grw
theorem Mem.putT {c : Ctx} {L T T' : List Blk} {W W' : World} (M : Mem c (L ++ T) W) (h : OkT W W' T T') : Mem c (L ++ T') W' where
  old := ⟨h.grw.os.trans M.old.os, h.grw.tape.trans M.old.tape, h.grw.output.trans M.old.output, Nat.le_trans M.old.size h.grw.size, fun k hk hr => by
    refine (h.grw.block k (Nat.lt_of_lt_of_le hk M.old.size) fun e => ?_).trans (M.old.block k hk hr)
    obtain ⟨b, hb, rfl⟩ := List.mem_map.1 e
    rcases M.ge b (List.mem_append_right _ hb) with h1 | h1
    · omega
    · exact hr h1⟩
  at_ := fun b hb => by
    rcases List.mem_append.1 hb with hb | hb
    · rw [h.grw.block _ (M.lt (List.mem_append_left _ hb)) fun e => ?_]
      · exact M.at_ b (List.mem_append_left _ hb)
      · have hn := M.nodup
        rw [List.map_append, List.nodup_append] at hn
        exact hn.2.2 _ (List.mem_map_of_mem hb) _ e rfl
    · exact h.at_ b hb
  ge := fun b hb => by
    rcases List.mem_append.1 hb with hb | hb
    · exact M.ge b (List.mem_append_left _ hb)
    · rcases h.ge b hb with h1 | h1
      · obtain ⟨d, hd, e⟩ := List.mem_map.1 h1
        rw [← e]
        exact M.ge d (List.mem_append_right _ hd)
      · exact .inl (Nat.le_trans M.old.size h1)
  nodup := by
    have hn := M.nodup
    rw [List.map_append, List.nodup_append] at hn ⊢
    refine ⟨hn.1, h.nodup, fun x hx y hy e => ?_⟩
    obtain ⟨d, hd, rfl⟩ := List.mem_map.1 hy
    rcases h.ge d hd with h1 | h1
    · exact hn.2.2 _ hx _ h1 e
    · obtain ⟨b, hb, rfl⟩ := List.mem_map.1 hx
      have := M.lt (List.mem_append_left _ hb)
      omega
  lay := M.lay
  ne := M.ne

theorem Mem.front {c : Ctx} {L : List Blk} {b : Blk} {W : World} (M : Mem c (L ++ [b]) W) : Mem c (b :: L) W := M.perm (List.perm_append_singleton b L)
/-- What lies in the midst of the list is changed. -/
theorem Mem.mid {c : Ctx} {L pre T suf T' : List Blk} {W W' : World} (M : Mem c L W) (hp : L = pre ++ (T ++ suf)) (h : OkT W W' T T') : Mem c (pre ++ (T' ++ suf)) W' := by
  subst hp
  have p : ∀ X : List Blk, (pre ++ (X ++ suf)).Perm ((pre ++ suf) ++ X) := fun X => by
    rw [List.append_assoc]
    exact List.Perm.append_left pre List.perm_append_comm
  exact ((M.perm (p T)).putT h).perm (p T').symm
theorem Mem.thereM {c : Ctx} {L pre T suf : List Blk} {W : World} (M : Mem c L W) (hp : L = pre ++ (T ++ suf)) : There W T := by
  subst hp
  exact M.there ((List.sublist_append_left T suf).trans (List.sublist_append_right pre _))
section
variable {P : Program} {ops : Array Oper} {rest : List Oper} {o : Oper} {a : Act} {w : World} {c : Ctx} {L : List Blk} {Q : Exit → Act → World → Prop} {α : Type}
/-- A call that turns the blocks T, in the midst of the list, into others, as x tells. -/
theorem pl_callM (M : Mem c L w) (hw : Region.wanted o (yielded ops a.tmps) = true) (d : Option Tmp) (hd : o.dst = d) (f : FuncId) (args : Array Value) (pre T suf : List Blk) (hp : L = pre ++ (T ++ suf)) (v : α → Value) (T' : α → List Blk) (R : α → Prop) (hrun : ∀ w, (execOp a.eval o).run P w = .ok (.enter f args) w)
    (hc : ∀ w, Laid w → There w T → Calls P f args w fun e w' => ∃ x, e = .returned (v x) ∧ R x ∧ OkT w w' T (T' x)) (h : ∀ x w', R x → Mem c (pre ++ (T' x ++ suf)) w' → PL P ops Q rest (a.put d (v x)) w') : PL P ops Q (o :: rest) a w :=
  pl_callq hw d hd f args hrun ((hc w M.laid (M.thereM hp)).mono fun _ w' ⟨x, he, hR, hk⟩ => ⟨v x, he, h x w' hR (M.mid hp hk)⟩)
/-- A call that changes two blocks. -/
theorem pl_call2 (M : Mem c L w) (hw : Region.wanted o (yielded ops a.tmps) = true) (d : Option Tmp) (hd : o.dst = d) (f : FuncId) (args : Array Value) (v : Value) (i j g k : Nat) (Z Y Z' Y' : Obj) (hi : L[i]? = some ⟨g, Z⟩) (hj : L[j]? = some ⟨k, Y⟩) (hrun : ∀ w, (execOp a.eval o).run P w = .ok (.enter f args) w)
    (hc : ∀ w, Mem c L w → Calls P f args w fun e w' => e = .returned v ∧ Grw w w' [g, k] ∧ w'.heap[g]? = some Z' ∧ w'.heap[k]? = some Y') (h : ∀ w', Mem c ((L.set i ⟨g, Z'⟩).set j ⟨k, Y'⟩) w' → PL P ops Q rest (a.put d v) w') : PL P ops Q (o :: rest) a w :=
  pl_callq hw d hd f args hrun ((hc w M).mono fun _ w' ⟨he, h1, h2, h3⟩ => ⟨v, he, h w' (M.put2 i j ⟨g, Z⟩ ⟨k, Y⟩ hi hj Z' Y' h1 h2 h3)⟩)
end
/-- Cells of a type, as append asks for them. -/
def InfoIs (P : Program) (e : TypeId) (zv : Value) : Prop := ∃ i, P.info? e = some i ∧ i.zero = some zv ∧ i.size = 1 ∧ i.bytes ≤ 16
theorem infoIs {P : Program} {e : TypeId} {zv : Value} {b : Nat} (h1 : (P.info? e).map (·.zero) = some (some zv)) (h2 : (P.info? e).map (·.size) = some 1) (h3 : (P.info? e).map (·.bytes) = some b) (hb : b ≤ 16) : InfoIs P e zv := by
  cases h : P.info? e with
  | none => rw [h] at h2; cases h2
  | some i =>
    rw [h] at h1 h2 h3
    simp only [Option.map_some, Option.some.injEq] at h1 h2 h3
    exact ⟨i, h, h1, h2, by omega⟩
theorem info24 : InfoIs Tryz.prog 24 (.int .u64 0) := infoIs (b := 8) (by kernel_rfl) (by kernel_rfl) (by kernel_rfl) (by decide)
section
variable {P : Program} {ops : Array Oper} {rest : List Oper} {o : Oper} {a : Act} {w : World} {c : Ctx} {L : List Blk} {Q : Exit → Act → World → Prop}
theorem pl_appI (M : Mem c L w) (hw : Region.wanted o (yielded ops a.tmps) = true) (d : Option Tmp) (hd : o.dst = d) (t ty e : TypeId) (zv : Value) (ht : P.underlying t = some (.slice e)) (hin : InfoIs P e zv) (hzc : zv.cells.size = 1) (i g n cap : Nat) (Z : Obj) (l : List Value) (hi : L[i]? = some ⟨g, Z⟩) (hs : SB Z cap l) (hn : l.length = n) (hle : n < 1000000) (j gx Tx : Nat) (v : Value) (hj : L[j]? = some ⟨gx, .cells (av 1 (fun _ => v)) Tx⟩) (h1 : v.oneCell' = true)
    (hrun : ∀ w, (execOp a.eval o).run P w = (do pure (Next.value (← Builtin.append_ #[t, t] ty #[.slice (some ⟨g, 0, none⟩) n cap, .slice (some ⟨gx, 0, none⟩) 1 1]))).run P w)
    (h : ∀ g' cap' Z' w', SB Z' cap' (l ++ [v]) → Mem c (L.eraseIdx i ++ [⟨g', Z'⟩]) w' → PL P ops Q rest (a.put d (.slice (some ⟨g', 0, none⟩) (n + 1) cap')) w') : PL P ops Q (o :: rest) a w := by
  obtain ⟨info, i1, i2, i3, i4⟩ := hin
  exact pl_app M hw d hd t ty e info zv ht i1 i2 i3 i4 hzc i g n cap Z l hi hs hn hle j gx Tx v hj h1 hrun h
theorem pl_app0I (M : Mem c L w) (hw : Region.wanted o (yielded ops a.tmps) = true) (d : Option Tmp) (hd : o.dst = d) (t ty e : TypeId) (zv : Value) (ht : P.underlying t = some (.slice e)) (hin : InfoIs P e zv) (hzc : zv.cells.size = 1) (j gx Tx : Nat) (v : Value) (hj : L[j]? = some ⟨gx, .cells (av 1 (fun _ => v)) Tx⟩)
    (hrun : ∀ w, (execOp a.eval o).run P w = (do pure (Next.value (← Builtin.append_ #[t, t] ty #[.slice none 0 0, .slice (some ⟨gx, 0, none⟩) 1 1]))).run P w)
    (h : ∀ g' cap' Z' w', SB Z' cap' [v] → Mem c (L ++ [⟨g', Z'⟩]) w' → PL P ops Q rest (a.put d (.slice (some ⟨g', 0, none⟩) 1 cap')) w') : PL P ops Q (o :: rest) a w := by
  obtain ⟨info, i1, i2, i3, i4⟩ := hin
  exact pl_app0 M hw d hd t ty e info zv ht i1 i2 i3 i4 hzc j gx Tx v hj hrun h
end
def ud (x y : Int) : Int := IntKind.wrap .u64 (BitVec.ofInt 64 x &&& ~~~ BitVec.ofInt 64 y).toNat
theorem run_remU {P : Program} {a : Act} {o : Oper} (t rt : TypeId) (x y : Operand) (ho : o.op = .binOp .rem t x y rt) (m d : Nat) (hx : a.eval x = .int .u64 (m : Int)) (hy : a.eval y = .int .u64 (d : Int)) (hd : 0 < d) (w : World) :
    (execOp a.eval o).run P w = .ok (.value (.int .u64 ((m % d : Nat) : Int))) w := by
  have h0 : ¬ d = 0 := by omega
  have e : Int.tmod (m : Int) (d : Int) = (m : Int) % (d : Int) := rfl
  unfold execOp
  simp [ho, hx, hy, eqGuard, binOp, Op.intDiv, h0, e]
theorem run_quoU {P : Program} {a : Act} {o : Oper} (t rt : TypeId) (x y : Operand) (ho : o.op = .binOp .quo t x y rt) (m d : Nat) (hx : a.eval x = .int .u64 (m : Int)) (hy : a.eval y = .int .u64 (d : Int)) (hd : 0 < d) (hm : m < 18446744073709551616) (w : World) :
    (execOp a.eval o).run P w = .ok (.value (.int .u64 ((m / d : Nat) : Int))) w := by
  have h0 : ¬ d = 0 := by omega
  have h2 : m / d ≤ m := Nat.div_le_self m d
  have e2 : IntKind.wrap .u64 ((m : Int) / (d : Int)) = (m : Int) / (d : Int) := by
    have e3 : (m : Int) / (d : Int) = ((m / d : Nat) : Int) := rfl
    rw [e3]
    generalize m / d = q at *
    rw [IntKind.wrap_u64]
    omega
  unfold execOp
  simp only [ho, hx, hy]
  simp [eqGuard, binOp, Op.intDiv, h0]
  exact e2
/-- How many words. -/
def nW (s : Nat) : Nat := (s + 63) / 64
def cpF (n : Nat) (m : Nat → Int) : Nat → Int := fun i => if i < n then m i else 0
def clF (n : Nat) (m : Nat → Int) : Nat → Int := fun i => if i < n then 0 else m i
section
variable {ops : Array Oper} {rest : List Oper} {o : Oper} {a : Act} {w : World} {c : Ctx} {L : List Blk} {Q : Exit → Act → World → Prop}
theorem pl_makeW (M : Mem c L w) (hw : Region.wanted o (yielded ops a.tmps) = true) (d : Option Tmp) (hd : o.dst = d) (x y : Operand) (ho : o.op = .makeSlice 118 x y) (n : Nat) (hx : a.eval x = .int .i64 (n : Int)) (hy : a.eval y = .int .i64 (n : Int)) (hc : n < 1000000)
    (h : ∀ g w', Mem c (L ++ [⟨g, .cells (av n (w64 (fun _ => 0))) 24⟩]) w' → PL Tryz.prog ops Q rest (a.put d (.slice (some ⟨g, 0, none⟩) n n)) w') : PL Tryz.prog ops Q (o :: rest) a w := by
  obtain ⟨info, i1, i2, i3, i4⟩ := info24
  have hr := run_make (P := Tryz.prog) w 118 24 info (.int .u64 0) Tryz.underlying118 i1 i2 .i64 .i64 (n : Int) (n : Int) (by omega) (by omega) (by
    have := Int.mul_le_mul (show (info.bytes : Int) ≤ 16 by omega) (show (n : Int) ≤ 1000000 by omega) (by omega) (by omega)
    omega) (by omega)
  simp only [Int.toNat_natCast, i3, Nat.mul_one] at hr
  have e : madeCells (Value.int .u64 0).cells n = av n (w64 (fun _ => 0)) := by
    apply Array.ext_getElem?
    intro i
    by_cases hi : i < n
    · rw [av_get n _ i hi]
      simp [madeCells, hi, w64, Value.cells, Nat.mod_one]
    · rw [Array.getElem?_eq_none (by simp [madeCells]; omega), Array.getElem?_eq_none (by simp [av_size]; omega)]
  rw [e] at hr
  refine pl_to hw d hd (.slice (some ⟨w.heap.size, 0, none⟩) n n) _ ?_ (h w.heap.size (w.alloc (.cells (av n (w64 (fun _ => 0))) 24)) (M.new _ _ (new_below w _) (heap_alloc_new w _) (Nat.le_refl _)))
  unfold execOp
  simp only [ho, hx, hy, Sem.run_bind, Sem.run_pure]
  rw [hr]
  rfl
theorem pl_clearW (M : Mem c L w) (hw : Region.wanted o (yielded ops a.tmps) = true) (hd : o.dst = none) (i g N : Nat) (m : Nat → Int) (hi : L[i]? = some ⟨g, .cells (av N (w64 m)) 24⟩) (n cp : Nat) (hn : 0 < n) (hle : n ≤ N)
    (hrun : ∀ w, (execOp a.eval o).run Tryz.prog w = (do pure (Next.value (← Builtin.clear_ #[118] 0 #[.slice (some ⟨g, 0, none⟩) n cp]))).run Tryz.prog w)
    (h : ∀ w', Mem c (L.set i ⟨g, .cells (av N (w64 (clF n m))) 24⟩) w' → PL Tryz.prog ops Q rest (a.put none (.tuple #[])) w') : PL Tryz.prog ops Q (o :: rest) a w := by
  have R := M.get i hi
  have hr := Lib.run_clear_slice (P := Tryz.prog) w 118 24 0 (.int .u64 0) Tryz.underlying118 (fun _ => by kernel_rfl) rfl rfl g 0 n cp hn (fun j hj => by rw [Nat.zero_add, cell_av R (by omega)]; rfl) (fun j hj => free_av R _)
  have e : List.replicate n (Value.int .u64 0) = (av n (fun _ => .int .u64 0)).toList := by
    apply List.ext_getElem?
    intro i
    by_cases hi : i < n
    · have e1 : (av n (fun _ => Value.int .u64 0)).toList[i]? = some (.int .u64 0) := by rw [Array.getElem?_toList, av_get n _ i hi]
      rw [e1]
      simp [hi]
    · rw [List.getElem?_eq_none (by simp; omega), List.getElem?_eq_none (by simp [av_size]; omega)]
  rw [e] at hr
  refine pl_to hw none hd (.tuple #[]) _ ?_ (h _ (M.put i ⟨g, _⟩ hi _ (grown_setCells g _ _ _) (by rw [heap_setCells g 24 _ w _ 0 R, setAll_av N (w64 m) (fun _ => .int .u64 0) (w64 (clF n m)) 0 n (by omega) (fun j _ => by
    unfold w64 clF
    by_cases hj : j < n
    · rw [if_pos (by omega), if_pos hj]
    · rw [if_neg (by omega), if_neg hj])])))
  rw [hrun]
  simp only [Sem.run_bind, hr, Result.andThen_ok, Sem.run_pure]
end
theorem inz6 : (Tryz.prog.info? 6).map (·.size) = some 1 := by kernel_rfl
theorem inz7 : (Tryz.prog.info? 7).map (·.size) = some 4 := by kernel_rfl
theorem inz8 : (Tryz.prog.info? 8).map (·.size) = some 4 := by kernel_rfl
theorem inz10 : (Tryz.prog.info? 10).map (·.size) = some 1 := by kernel_rfl
theorem inz11 : (Tryz.prog.info? 11).map (·.size) = some 1 := by kernel_rfl
theorem inz12 : (Tryz.prog.info? 12).map (·.size) = some 1 := by kernel_rfl
theorem inz13 : (Tryz.prog.info? 13).map (·.size) = some 2 := by kernel_rfl
theorem inz14 : (Tryz.prog.info? 14).map (·.size) = some 2 := by kernel_rfl
theorem inz15 : (Tryz.prog.info? 15).map (·.size) = some 1 := by kernel_rfl
theorem inz16 : (Tryz.prog.info? 16).map (·.size) = some 1 := by kernel_rfl
theorem inz17 : (Tryz.prog.info? 17).map (·.size) = some 1 := by kernel_rfl
theorem inz18 : (Tryz.prog.info? 18).map (·.size) = some 1 := by kernel_rfl
theorem inz19 : (Tryz.prog.info? 19).map (·.size) = some 1 := by kernel_rfl
theorem inz21 : (Tryz.prog.info? 21).map (·.size) = some 1 := by kernel_rfl
theorem inz22 : (Tryz.prog.info? 22).map (·.size) = some 5 := by kernel_rfl
theorem inz23 : (Tryz.prog.info? 23).map (·.size) = some 5 := by kernel_rfl
theorem inz25 : (Tryz.prog.info? 25).map (·.size) = some 5 := by kernel_rfl
theorem inz26 : (Tryz.prog.info? 26).map (·.size) = some 5 := by kernel_rfl
theorem inz27 : (Tryz.prog.info? 27).map (·.size) = some 1 := by kernel_rfl
theorem inz28 : (Tryz.prog.info? 28).map (·.size) = some 1 := by kernel_rfl
theorem inz29 : (Tryz.prog.info? 29).map (·.size) = some 1 := by kernel_rfl
theorem inz30 : (Tryz.prog.info? 30).map (·.size) = some 1 := by kernel_rfl
theorem inz31 : (Tryz.prog.info? 31).map (·.size) = some 2 := by kernel_rfl
theorem inz32 : (Tryz.prog.info? 32).map (·.size) = some 1 := by kernel_rfl
theorem inz33 : (Tryz.prog.info? 33).map (·.size) = some 2 := by kernel_rfl
theorem inz34 : (Tryz.prog.info? 34).map (·.size) = some 1 := by kernel_rfl
theorem inz35 : (Tryz.prog.info? 35).map (·.size) = some 2 := by kernel_rfl
theorem inz36 : (Tryz.prog.info? 36).map (·.size) = some 6 := by kernel_rfl
theorem inz37 : (Tryz.prog.info? 37).map (·.size) = some 6 := by kernel_rfl
theorem inz40 : (Tryz.prog.info? 40).map (·.size) = some 1 := by kernel_rfl
theorem inz42 : (Tryz.prog.info? 42).map (·.size) = some 1 := by kernel_rfl
theorem inz43 : (Tryz.prog.info? 43).map (·.size) = some 1 := by kernel_rfl
theorem inz44 : (Tryz.prog.info? 44).map (·.size) = some 6 := by kernel_rfl
theorem inz45 : (Tryz.prog.info? 45).map (·.size) = some 6 := by kernel_rfl
theorem inz46 : (Tryz.prog.info? 46).map (·.size) = some 1 := by kernel_rfl
theorem inz47 : (Tryz.prog.info? 47).map (·.size) = some 1 := by kernel_rfl
theorem inz48 : (Tryz.prog.info? 48).map (·.size) = some 2 := by kernel_rfl
theorem inz49 : (Tryz.prog.info? 49).map (·.size) = some 2 := by kernel_rfl
theorem inz50 : (Tryz.prog.info? 50).map (·.size) = some 14 := by kernel_rfl
theorem inz51 : (Tryz.prog.info? 51).map (·.size) = some 14 := by kernel_rfl
theorem inz52 : (Tryz.prog.info? 52).map (·.size) = some 1 := by kernel_rfl
theorem inz53 : (Tryz.prog.info? 53).map (·.size) = some 1 := by kernel_rfl
theorem inz54 : (Tryz.prog.info? 54).map (·.size) = some 1 := by kernel_rfl
theorem inz55 : (Tryz.prog.info? 55).map (·.size) = some 1 := by kernel_rfl
theorem inz56 : (Tryz.prog.info? 56).map (·.size) = some 1 := by kernel_rfl
theorem inz57 : (Tryz.prog.info? 57).map (·.size) = some 1 := by kernel_rfl
theorem inz58 : (Tryz.prog.info? 58).map (·.size) = some 1 := by kernel_rfl
theorem inz59 : (Tryz.prog.info? 59).map (·.size) = some 1 := by kernel_rfl
theorem inz60 : (Tryz.prog.info? 60).map (·.size) = some 1 := by kernel_rfl
theorem inz61 : (Tryz.prog.info? 61).map (·.size) = some 1 := by kernel_rfl
theorem inz62 : (Tryz.prog.info? 62).map (·.size) = some 1 := by kernel_rfl
theorem inz63 : (Tryz.prog.info? 63).map (·.size) = some 1 := by kernel_rfl
theorem inz64 : (Tryz.prog.info? 64).map (·.size) = some 4 := by kernel_rfl
theorem inz65 : (Tryz.prog.info? 65).map (·.size) = some 4 := by kernel_rfl
theorem inz66 : (Tryz.prog.info? 66).map (·.size) = some 1 := by kernel_rfl
theorem inz68 : (Tryz.prog.info? 68).map (·.size) = some 4 := by kernel_rfl
theorem inz69 : (Tryz.prog.info? 69).map (·.size) = some 4 := by kernel_rfl
theorem inz70 : (Tryz.prog.info? 70).map (·.size) = some 1 := by kernel_rfl
theorem inz71 : (Tryz.prog.info? 71).map (·.size) = some 2 := by kernel_rfl
theorem inz72 : (Tryz.prog.info? 72).map (·.size) = some 2 := by kernel_rfl
theorem inz73 : (Tryz.prog.info? 73).map (·.size) = some 1 := by kernel_rfl
theorem inz74 : (Tryz.prog.info? 74).map (·.size) = some 1 := by kernel_rfl
theorem inz75 : (Tryz.prog.info? 75).map (·.size) = some 1 := by kernel_rfl
theorem inz76 : (Tryz.prog.info? 76).map (·.size) = some 1 := by kernel_rfl
theorem inz78 : (Tryz.prog.info? 78).map (·.size) = some 1 := by kernel_rfl
theorem inz80 : (Tryz.prog.info? 80).map (·.size) = some 1 := by kernel_rfl
theorem inz81 : (Tryz.prog.info? 81).map (·.size) = some 1 := by kernel_rfl
theorem inz82 : (Tryz.prog.info? 82).map (·.size) = some 1 := by kernel_rfl
theorem inz84 : (Tryz.prog.info? 84).map (·.size) = some 1 := by kernel_rfl
theorem inz85 : (Tryz.prog.info? 85).map (·.size) = some 1 := by kernel_rfl
theorem inz86 : (Tryz.prog.info? 86).map (·.size) = some 1 := by kernel_rfl
theorem inz87 : (Tryz.prog.info? 87).map (·.size) = some 1 := by kernel_rfl
theorem inz88 : (Tryz.prog.info? 88).map (·.size) = some 12 := by kernel_rfl
theorem inz89 : (Tryz.prog.info? 89).map (·.size) = some 12 := by kernel_rfl
theorem inz90 : (Tryz.prog.info? 90).map (·.size) = some 1 := by kernel_rfl
theorem inz91 : (Tryz.prog.info? 91).map (·.size) = some 1 := by kernel_rfl
theorem inz92 : (Tryz.prog.info? 92).map (·.size) = some 1 := by kernel_rfl
theorem inz94 : (Tryz.prog.info? 94).map (·.size) = some 1 := by kernel_rfl
theorem inz95 : (Tryz.prog.info? 95).map (·.size) = some 2 := by kernel_rfl
theorem inz96 : (Tryz.prog.info? 96).map (·.size) = some 2 := by kernel_rfl
theorem inz99 : (Tryz.prog.info? 99).map (·.size) = some 1 := by kernel_rfl
theorem inz100 : (Tryz.prog.info? 100).map (·.size) = some 1 := by kernel_rfl
theorem inz101 : (Tryz.prog.info? 101).map (·.size) = some 2 := by kernel_rfl
theorem inz102 : (Tryz.prog.info? 102).map (·.size) = some 2 := by kernel_rfl
theorem inz103 : (Tryz.prog.info? 103).map (·.size) = some 1 := by kernel_rfl
theorem inz104 : (Tryz.prog.info? 104).map (·.size) = some 1 := by kernel_rfl
theorem inz105 : (Tryz.prog.info? 105).map (·.size) = some 1 := by kernel_rfl
theorem inz107 : (Tryz.prog.info? 107).map (·.size) = some 1 := by kernel_rfl
theorem inz108 : (Tryz.prog.info? 108).map (·.size) = some 1 := by kernel_rfl
theorem inz109 : (Tryz.prog.info? 109).map (·.size) = some 1 := by kernel_rfl
theorem inz110 : (Tryz.prog.info? 110).map (·.size) = some 1 := by kernel_rfl
theorem inz111 : (Tryz.prog.info? 111).map (·.size) = some 1 := by kernel_rfl
theorem inz112 : (Tryz.prog.info? 112).map (·.size) = some 2 := by kernel_rfl
theorem inz113 : (Tryz.prog.info? 113).map (·.size) = some 2 := by kernel_rfl
theorem inz114 : (Tryz.prog.info? 114).map (·.size) = some 1 := by kernel_rfl
theorem inz115 : (Tryz.prog.info? 115).map (·.size) = some 1 := by kernel_rfl
theorem inz116 : (Tryz.prog.info? 116).map (·.size) = some 1 := by kernel_rfl
theorem inz117 : (Tryz.prog.info? 117).map (·.size) = some 1 := by kernel_rfl
theorem inz118 : (Tryz.prog.info? 118).map (·.size) = some 1 := by kernel_rfl
theorem inz119 : (Tryz.prog.info? 119).map (·.size) = some 1 := by kernel_rfl
theorem inz120 : (Tryz.prog.info? 120).map (·.size) = some 3 := by kernel_rfl
theorem inz121 : (Tryz.prog.info? 121).map (·.size) = some 3 := by kernel_rfl
theorem inz122 : (Tryz.prog.info? 122).map (·.size) = some 1 := by kernel_rfl

end Go.Proofs.YtenafinbaanicaaGreatDoor
namespace Go.Proofs.YtenafinbaanicaaGreatDoor
open Go.RowKit
set_option maxRecDepth 100000

/-- The bit of a place within its word. -/
def bw (p : Nat) : Int := sl 1 (p % 64)
/-- Whether a place is marked. -/
def hb (m : Nat → Int) (p : Nat) : Bool := decide (¬ un (m (p / 64)) (bw p) = 0)
def stM (m : Nat → Int) (p : Nat) : Nat → Int := upd m (p / 64) (uo (m (p / 64)) (bw p))
def wpM (m : Nat → Int) (p : Nat) : Nat → Int := upd m (p / 64) (ud (m (p / 64)) (bw p))
set_option maxRecDepth 100000 in
set_option maxHeartbeats 4000000 in
set_option linter.unusedSimpArgs false in
theorem c_bit (p : Nat) (w : World) (hL : Laid w)  :
    Calls Tryz.prog 97 #[.int .u64 (p : Int)] w fun r w' => r = .returned (.int .u64 (bw p)) ∧ Below w.heap.size w w' := by
  go_enter Tryz.func97, Tryz.ntmps97
  have M := Mem.start hL
  refine sq ?_
  refine sR ?_
  refine rV 1 ?_
  refine pH 4 (.int .u64 ((p % 64 : Nat) : Int)) (run_remU 24 24 _ _ rfl p 64 (by kernel_rfl) (by kernel_rfl) (by decide)) ?_
  refine pH 5 (.int .u64 (sl 1 (p % 64))) (run_shlX 24 24 _ _ rfl 1 .u64 (p % 64) (by kernel_rfl) (by kernel_rfl)) ?_
  refine rV 1 ?_
  refine nT ?_
  refine wp_ret ?_
  have e0 : (bw p) = (sl 1 (p % 64)) := rfl
  exact bodyPost_ret (v := .int .u64 (sl 1 (p % 64))) (results_tmp1 Tryz.results97 _ _ _ (by kernel_rfl)) (by kernel_rfl) ⟨by rw [e0], below_grown M.old⟩

set_option maxRecDepth 100000 in
set_option maxHeartbeats 4000000 in
set_option linter.unusedSimpArgs false in
theorem c_has (k p n cap : Nat) (m : Nat → Int) (hp : p < 18446744073709551616) (hn : p / 64 < n) (hc : n ≤ cap) (w : World) (hL : Laid w)  (hT : There w [⟨k, .cells (av cap (w64 m)) 24⟩]) :
    Calls Tryz.prog 82 #[.slice (some ⟨k, 0, none⟩) n cap, .int .u64 (p : Int)] w fun r w' => r = .returned (.bool (hb m p)) ∧ Below w.heap.size w w' := by
  go_enter Tryz.func82, Tryz.ntmps82
  have M : Mem ⟨w, [k]⟩ [⟨k, .cells (av cap (w64 m)) 24⟩] w := Mem.startT hL hT
  refine sq ?_
  refine wp_seq ?_
  refine rg_tail M 9 (by kernel_rfl) (by kernel_rfl) ?_
  simp only [List.take_succ_cons, List.take_zero]
  refine kR 2 ?_
  refine kH 7 (.int .u64 ((p / 64 : Nat) : Int)) (run_quoU 24 24 _ _ rfl p 64 (by kernel_rfl) (by kernel_rfl) (by decide) (by omega)) ?_
  refine kH 8 (.pointer (some ⟨k, ((p / 64)), none⟩)) (run_ix0 118 24 Tryz.underlying118 inz24 _ _ rfl k n cap (by kernel_rfl) .u64 ((p / 64)) (by kernel_rfl) (by omega)) ?_
  refine eE M 9 0 ((p / 64)) ?_
  refine kR 1 ?_
  refine eC M 11 (fun w M => c_bit p w M.laid) ?_
  refine kR 1 ?_
  by_cases c0 : (un (m ((p / 64))) (bw p)) = 0
  · skip
    refine kH 13 (.bool false) (jD ((un (m ((p / 64))) (bw p)) = 0) (c0)) ?_
    refine kl_nil fun u1 M => ?_
    replace M : Mem ⟨w, [k]⟩ [⟨k, .cells (av cap (w64 m)) 24⟩] u1 := M
    refine rV 1 ?_
    refine nT ?_
    refine wp_ret ?_
    have e0 : hb m p = false := by first | (simp only [hb, if_pos c0]; done) | simp [hb, c0]
    exact bodyPost_ret (v := .bool false) (results_tmp1 Tryz.results82 _ _ _ (by kernel_rfl)) (by kernel_rfl) ⟨by rw [e0], ro_T hT M⟩
  · skip
    refine kH 13 (.bool true) (jU ((un (m ((p / 64))) (bw p)) = 0) (c0)) ?_
    refine kl_nil fun u1 M => ?_
    replace M : Mem ⟨w, [k]⟩ [⟨k, .cells (av cap (w64 m)) 24⟩] u1 := M
    refine rV 1 ?_
    refine nT ?_
    refine wp_ret ?_
    have e0 : hb m p = true := by first | (simp only [hb, if_neg c0]; done) | simp [hb, c0]
    exact bodyPost_ret (v := .bool true) (results_tmp1 Tryz.results82 _ _ _ (by kernel_rfl)) (by kernel_rfl) ⟨by rw [e0], ro_T hT M⟩

set_option maxRecDepth 100000 in
set_option maxHeartbeats 4000000 in
set_option linter.unusedSimpArgs false in
theorem c_set (k p n cap : Nat) (m : Nat → Int) (hp : p < 18446744073709551616) (hn : p / 64 < n) (hc : n ≤ cap) (w : World) (hL : Laid w)  (hT : There w [⟨k, .cells (av cap (w64 m)) 24⟩]) :
    Calls Tryz.prog 86 #[.slice (some ⟨k, 0, none⟩) n cap, .int .u64 (p : Int)] w fun r w' => r = .returned (.tuple #[]) ∧ Grw w w' [k] ∧ w'.heap[k]? = some (.cells (av cap (w64 (stM m p))) 24) := by
  go_enter Tryz.func86, Tryz.ntmps86
  have M : Mem ⟨w, [k]⟩ [⟨k, .cells (av cap (w64 m)) 24⟩] w := Mem.startT hL hT
  refine rg_tail M 9 (by kernel_rfl) (by kernel_rfl) ?_
  simp only [List.take_succ_cons, List.take_zero]
  refine kR 2 ?_
  refine kH 6 (.int .u64 ((p / 64 : Nat) : Int)) (run_quoU 24 24 _ _ rfl p 64 (by kernel_rfl) (by kernel_rfl) (by decide) (by omega)) ?_
  refine kH 7 (.pointer (some ⟨k, ((p / 64)), none⟩)) (run_ix0 118 24 Tryz.underlying118 inz24 _ _ rfl k n cap (by kernel_rfl) .u64 ((p / 64)) (by kernel_rfl) (by omega)) ?_
  refine eE M 8 0 ((p / 64)) ?_
  refine kR 1 ?_
  refine eC M 10 (fun w M => c_bit p w M.laid) ?_
  refine kR 1 ?_
  refine kH 12 (.pointer (some ⟨k, ((p / 64)), none⟩)) (run_ix0 118 24 Tryz.underlying118 inz24 _ _ rfl k n cap (by kernel_rfl) .u64 ((p / 64)) (by kernel_rfl) (by omega)) ?_
  refine kl_nil fun u1 M => ?_
  replace M : Mem ⟨w, [k]⟩ [⟨k, .cells (av cap (w64 m)) 24⟩] u1 := M
  refine ZP64 M 0 ((p / 64)) (uo (m ((p / 64))) (bw p)) fun u2 M => ?_
  replace M : Mem ⟨w, [k]⟩ [⟨k, .cells (av cap (w64 (upd m ((p / 64)) (uo (m ((p / 64))) (bw p))))) 24⟩] u2 := M
  refine pl_nil ?_
  exact bodyPost_end (v := .tuple #[]) (results_none Tryz.results86 _ _) (by kernel_rfl) ⟨rfl, M.old, M.get 0 rfl⟩

set_option maxRecDepth 100000 in
set_option maxHeartbeats 4000000 in
set_option linter.unusedSimpArgs false in
theorem c_wipe (k p n cap : Nat) (m : Nat → Int) (hp : p < 18446744073709551616) (hn : p / 64 < n) (hc : n ≤ cap) (w : World) (hL : Laid w)  (hT : There w [⟨k, .cells (av cap (w64 m)) 24⟩]) :
    Calls Tryz.prog 98 #[.slice (some ⟨k, 0, none⟩) n cap, .int .u64 (p : Int)] w fun r w' => r = .returned (.tuple #[]) ∧ Grw w w' [k] ∧ w'.heap[k]? = some (.cells (av cap (w64 (wpM m p))) 24) := by
  go_enter Tryz.func98, Tryz.ntmps98
  have M : Mem ⟨w, [k]⟩ [⟨k, .cells (av cap (w64 m)) 24⟩] w := Mem.startT hL hT
  refine rg_tail M 9 (by kernel_rfl) (by kernel_rfl) ?_
  simp only [List.take_succ_cons, List.take_zero]
  refine kR 2 ?_
  refine kH 6 (.int .u64 ((p / 64 : Nat) : Int)) (run_quoU 24 24 _ _ rfl p 64 (by kernel_rfl) (by kernel_rfl) (by decide) (by omega)) ?_
  refine kH 7 (.pointer (some ⟨k, ((p / 64)), none⟩)) (run_ix0 118 24 Tryz.underlying118 inz24 _ _ rfl k n cap (by kernel_rfl) .u64 ((p / 64)) (by kernel_rfl) (by omega)) ?_
  refine eE M 8 0 ((p / 64)) ?_
  refine kR 1 ?_
  refine eC M 10 (fun w M => c_bit p w M.laid) ?_
  refine kR 1 ?_
  refine kH 12 (.pointer (some ⟨k, ((p / 64)), none⟩)) (run_ix0 118 24 Tryz.underlying118 inz24 _ _ rfl k n cap (by kernel_rfl) .u64 ((p / 64)) (by kernel_rfl) (by omega)) ?_
  refine kl_nil fun u1 M => ?_
  replace M : Mem ⟨w, [k]⟩ [⟨k, .cells (av cap (w64 m)) 24⟩] u1 := M
  refine ZP64 M 0 ((p / 64)) (ud (m ((p / 64))) (bw p)) fun u2 M => ?_
  replace M : Mem ⟨w, [k]⟩ [⟨k, .cells (av cap (w64 (upd m ((p / 64)) (ud (m ((p / 64))) (bw p))))) 24⟩] u2 := M
  refine pl_nil ?_
  exact bodyPost_end (v := .tuple #[]) (results_none Tryz.results98 _ _) (by kernel_rfl) ⟨rfl, M.old, M.get 0 rfl⟩

set_option maxRecDepth 100000 in
set_option maxHeartbeats 4000000 in
set_option linter.unusedSimpArgs false in
theorem c_place (g k s h cap n : Nat) (hs : 1 ≤ s) (w : World) (hL : Laid w)  (hT : There w [⟨g, .cells (av 3 (ls [.int .u64 (s : Int), .int .u64 (h : Int), .slice (some ⟨k, 0, none⟩) (nW s) cap])) 121⟩]) :
    Calls Tryz.prog 83 #[.pointer (some ⟨g, 0, none⟩), .int .u64 (n : Int)] w fun r w' => r = .returned (.int .u64 ((n % s : Nat) : Int)) ∧ Below w.heap.size w w' := by
  go_enter Tryz.func83, Tryz.ntmps83
  have M : Mem ⟨w, [g]⟩ [⟨g, .cells (av 3 (ls [.int .u64 (s : Int), .int .u64 (h : Int), .slice (some ⟨k, 0, none⟩) (nW s) cap])) 121⟩] w := Mem.startT hL hT
  refine sq ?_
  refine sR ?_
  refine rV 4 ?_
  refine ZE M 9 0 0 ?_
  refine pH 10 (.int .u64 ((n % s : Nat) : Int)) (run_remU 24 24 _ _ rfl n s (by kernel_rfl) (by kernel_rfl) (by omega)) ?_
  refine rV 1 ?_
  refine nT ?_
  refine wp_ret ?_
  exact bodyPost_ret (v := .int .u64 ((n % s : Nat) : Int)) (results_tmp1 Tryz.results83 _ _ _ (by kernel_rfl)) (by kernel_rfl) ⟨rfl, ro_T hT M⟩

set_option maxRecDepth 100000 in
set_option maxHeartbeats 4000000 in
set_option linter.unusedSimpArgs false in
theorem c_made (g k s h cap : Nat) (hs : 1 ≤ s) (w : World) (hL : Laid w)  (hT : There w [⟨g, .cells (av 3 (ls [.int .u64 (s : Int), .int .u64 (h : Int), .slice (some ⟨k, 0, none⟩) (nW s) cap])) 121⟩]) :
    Calls Tryz.prog 81 #[.pointer (some ⟨g, 0, none⟩)] w fun r w' => r = .returned (.bool true) ∧ Below w.heap.size w w' := by
  go_enter Tryz.func81, Tryz.ntmps81
  have M : Mem ⟨w, [g]⟩ [⟨g, .cells (av 3 (ls [.int .u64 (s : Int), .int .u64 (h : Int), .slice (some ⟨k, 0, none⟩) (nW s) cap])) 121⟩] w := Mem.startT hL hT
  refine sq ?_
  refine sR ?_
  refine rV 6 ?_
  refine pl_cell M (want_on 2 true rfl 5 rfl (by kernel_rfl)) (some 9) rfl 24 _ rfl g 0 (by kernel_rfl) (.int .u64 (s : Int)) (fun _ => by kernel_rfl) (fun w M => M.cell 0 rfl (by decide) rfl) ?_
  by_cases c0 : 0 < (s : Int)
  · skip
    refine pl_val (want_on 2 true rfl 5 rfl (by kernel_rfl)) (some 10) rfl (.bool true) (fun w => Eq.trans (b := .ok (.value (.bool (decide (0 < (s : Int))))) w) (by kernel_rfl) (by rw [decide_eq_true (c0)])) ?_
    refine rV 2 ?_
    refine nT ?_
    refine wp_ret ?_
    exact bodyPost_ret (v := .bool true) (results_tmp1 Tryz.results81 _ _ _ (by kernel_rfl)) (by kernel_rfl) ⟨rfl, ro_T hT M⟩
  · exfalso; omega

theorem quo_nW (s : Nat) (hs : s ≤ 4096) : IntKind.wrap .i64 (Int.tdiv ((s : Int) + 64 - 1) 64) = ((nW s : Nat) : Int) := by
  have e : ((s : Int) + 64 - 1) = ((s + 63 : Nat) : Int) := by omega
  rw [e]
  have e2 : Int.tdiv ((s + 63 : Nat) : Int) 64 = (((s + 63) / 64 : Nat) : Int) := rfl
  rw [e2, wrap64 (by omega) (by omega)]
  rfl
set_option maxRecDepth 100000 in
set_option maxHeartbeats 4000000 in
set_option linter.unusedSimpArgs false in
theorem c_room (s : Nat) (hs4 : s ≤ 4096) (w : World) (hL : Laid w)  :
    Calls Tryz.prog 48 #[.int .i64 (s : Int)] w fun r w' => ∃ k, r = .returned (.slice (some ⟨k, 0, none⟩) (nW s) (nW s)) ∧ w.heap.size ≤ k ∧ w'.heap[k]? = some (.cells (av (nW s) (w64 (fun _ => 0))) 24) ∧ Below w.heap.size w w' := by
  go_enter Tryz.func48, Tryz.ntmps48
  have M := Mem.start hL
  refine sq ?_
  refine sR ?_
  refine rV 1 ?_
  refine pH 4 (.int .i64 ((s : Int) + 64)) (fun w => Eq.trans (b := .ok (.value (.int .i64 (IntKind.wrap .i64 ((s : Int) + 64)))) w) (by kernel_rfl) (by rw [wrap64 (by omega) (by omega)])) ?_
  refine pH 5 (.int .i64 (((s : Int) + 64) - 1)) (fun w => Eq.trans (b := .ok (.value (.int .i64 (IntKind.wrap .i64 (((s : Int) + 64) - 1)))) w) (by kernel_rfl) (by rw [wrap64 (by omega) (by omega)])) ?_
  refine ZQ 6 .i64 (IntKind.wrap .i64 (Int.tdiv (((s : Int) + 64) - 1) 64)) (quo_nW s hs4) ?_
  refine pl_makeW M (want_no rfl) (some 7) rfl _ _ rfl ((nW s)) (by kernel_rfl) (by kernel_rfl) (by unfold nW; omega) fun g1 u1 M => ?_
  replace M : Mem ⟨w, []⟩ [⟨g1, .cells (av (nW s) (w64 (fun _ => 0))) 24⟩] u1 := M
  refine rV 1 ?_
  refine nT ?_
  refine wp_ret ?_
  exact bodyPost_ret (v := .slice (some ⟨g1, 0, none⟩) (nW s) (nW s)) (results_tmp1 Tryz.results48 _ _ _ (by kernel_rfl)) (by kernel_rfl) ⟨_, rfl, ((M.ge _ (List.mem_singleton.2 rfl)).resolve_right (by simp)), M.get 0 rfl, below_grown M.old⟩


end Go.Proofs.YtenafinbaanicaaGreatDoor
