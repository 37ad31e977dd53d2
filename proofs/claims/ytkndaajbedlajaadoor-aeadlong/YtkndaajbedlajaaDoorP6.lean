/- The document: the walk of Tag. -/
import Derived.Test.YtkndaajbedlajaaDoorP5
namespace Go.Proofs.YtkndaajbedlajaaDoor.Pol
open Go.RowKit

def rk (key : ByteArray) : Nat → (Nat → Int)
  | 0 => fun _ => 0
  | j + 1 => upd (rk key j) j (cv .u64 (bt key j))
def dm1 (p : Nat → Int) : Nat → Int := upd (upd (upd (upd p 3 (un (p 3) 15)) 7 (un (p 7) 15)) 11 (un (p 11) 15)) 15 (un (p 15) 15)
def dm2 (p : Nat → Int) : Nat → Int := upd (upd (upd p 4 (un (p 4) 252)) 8 (un (p 8) 252)) 12 (un (p 12) 252)
def drF (key : ByteArray) : Nat → Int := dm2 (dm1 (rk key 16))
def dpa (h : Nat → Int) (p : ByteArray) : Nat → (Nat → Int)
  | 0 => h
  | j + 1 => upd (dpa h p j) j (ua (dpa h p j j) (cv .u64 (bt p j)))
def dpp (h : Nat → Int) (p : ByteArray) : Nat → Int := upd (dpa h p p.size) p.size (ua (dpa h p p.size p.size) 1)
def dpc (s : ByteArray) (j : Nat) : ByteArray := s.extract (16 * j) (min (16 * j + 16) s.size)
def dnx (s : ByteArray) (r h : Nat → Int) (j : Nat) : Nat → Int := dtF (dcF (dpp h (dpc s j))) r
def dsm (s : ByteArray) (r : Nat → Int) : Nat → (Nat → Int)
  | 0 => fun _ => 0
  | j + 1 => dnx s r (dsm s r j) j
/-- The number at the end. -/
def dh (key s : ByteArray) : Nat → Int := dwF (dsm s (drF key) ((s.size + 15) / 16))
def dsg (key : ByteArray) (h : Nat → Int) : Nat → Int := fun i => ua (h i) (cv .u64 (bt key (16 + i)))
def dby (g : Nat → Int) (i : Nat) : Int := cv .u8 (ua (g i) (cy 8 g i))
def dbs (g : Nat → Int) : Nat → (Nat → Int)
  | 0 => fun _ => 0
  | j + 1 => upd (dbs g j) j (dby g j)
theorem dbs_at (g : Nat → Int) : ∀ n, ∀ i, i < n → dbs g n i = dby g i
  | 0, i, h => absurd h (by omega)
  | n + 1, i, h => by
    unfold dbs upd
    by_cases e : i = n
    · rw [if_pos e, e]
    · rw [if_neg e, dbs_at g n i (by omega)]
theorem dbs_map (g : Nat → Int) : (List.range 16).map (dbs g 16) = (List.range 16).map (dby g) := List.map_congr_left fun i hi => dbs_at g 16 i (List.mem_range.1 hi)
theorem dby_nn (g : Nat → Int) : ∀ y ∈ (List.range 16).map (dby g), 0 ≤ y ∧ y < 256 := fun y hy => by
  obtain ⟨i, _, rfl⟩ := List.mem_map.1 hy
  exact cv8_nn _
/-- The document's tag. -/
def dtS (key s : ByteArray) : ByteArray := bs ((List.range 16).map (dby (dsg key (dh key s))))
theorem dpc_size (s : ByteArray) (j : Nat) : (dpc s j).size = min (16 * j + 16) s.size - 16 * j := by
  unfold dpc
  rw [ByteArray.size_extract]
  omega

set_option maxRecDepth 100000 in
set_option maxHeartbeats 4000000 in
theorem d_TagA (key s : ByteArray) (hk : key.size = 32) (hz : s.size ≤ 200000) (w : World) (hL : Laid w)  :
    Calls Tryd.prog 30 #[.string key, .string s] w fun r w' => r = .returned (.tuple #[.string (dtS key s), .int .i64 0]) ∧ Below w.heap.size w w' := by
  go_enter Tryd.func30, Tryd.ntmps30
  have M := Mem.start hL
  refine wp_seq ?_
  refine rg_lit ?_
  refine pl_val (want_no rfl) (some 4) rfl (.string ⟨#[]⟩) (fun _ => by kernel_rfl) ?_
  refine pl_val (want_no rfl) (some 5) rfl (.int .i64 0) (fun _ => by kernel_rfl) ?_
  refine pl_nil ?_
  refine au_then ?_
  refine wp_seq ?_
  refine wp_seq ?_
  refine rg_lit ?_
  refine pl_val (want_no rfl) (some 18) rfl (.string key) (fun _ => by kernel_rfl) ?_
  refine pl_val (want_no rfl) (some 19) rfl (.int .i64 (key.size : Int)) (fun _ => by kernel_rfl) ?_
  refine pl_val (want_no rfl) (some 20) rfl (.bool false) (fun w => Eq.trans (b := .ok (.value (.bool (!(decide ((key.size : Int) = 32))))) w) (by kernel_rfl) (by rw [decide_eq_true (by omega)]; rfl)) ?_
  refine pl_nil ?_
  refine au_then ?_
  refine wp_cond_false (by kernel_rfl) ?_
  refine wp_skip ?_
  refine au_then ?_
  refine wp_seq ?_
  refine rg_lit ?_
  refine pl_new M (want_no rfl) (some 6) rfl (.cells (av 18 (w64 (fun _ => 0))) 84) (fun _ => by kernel_rfl) ?_
  intro g1 u1 M
  replace M : Mem ⟨w, []⟩ [⟨g1, .cells (av 18 (w64 (fun _ => 0))) 84⟩] u1 := M
  refine pl_nil ?_
  refine au_then ?_
  refine wp_seq ?_
  refine wp_seq ?_
  refine rg_lit ?_
  refine pl_val (want_no rfl) (some 7) rfl (.int .i64 0) (fun _ => by kernel_rfl) ?_
  refine pl_nil ?_
  refine au_then ?_
  refine wp_block ?_
  refine au_loop (fun j a w' => ∃ v1 : Nat → Value, a = ⟨#[.string key, .string s, undef, undef, .string ⟨#[]⟩, .int .i64 0, .pointer (some ⟨g1, 0, none⟩), .int .i64 (j : Int), undef, undef, undef, undef, undef, undef, undef, undef, undef, undef, .string key, .int .i64 (key.size : Int), .bool false, v1 21, v1 22, v1 23, v1 24, v1 25, v1 26, v1 27, v1 28, v1 29, v1 30, undef, undef, undef, undef, undef, undef, undef, undef, undef, undef, undef, undef, undef, undef, undef, undef, undef, undef, undef, undef, undef, undef, undef, undef, undef, undef, undef, undef, undef, undef, undef, undef, undef, undef, undef, undef, undef, undef, undef, undef, undef, undef, undef, undef, undef, undef, undef, undef, undef, undef, undef, undef, undef, undef, undef, undef, undef, undef, undef, undef, undef, undef, undef, undef, undef, undef, undef, undef, undef, undef, undef, undef, undef, undef, undef, undef, undef, undef, undef, undef, undef, undef, undef, undef, undef, undef, undef], []⟩ ∧ Mem ⟨w, []⟩ [⟨g1, .cells (av 18 (w64 (rk key j))) 84⟩] w') 16 ⟨fun k_ => ([undef, undef, undef, undef, undef, undef, undef, undef, undef, undef] : List Value).getD (k_ - 21) undef, by kernel_rfl, M⟩ ?_ ?_
  · intro j a u0 hj hI
    obtain ⟨v1, rfl, M⟩ := hI
    refine wp_seq ?_
    refine wp_seq ?_
    refine rg_lit ?_
    refine pl_val (want_no rfl) (some 21) rfl (.int .i64 (j : Int)) (fun _ => by kernel_rfl) ?_
    refine pl_val (want_no rfl) (some 22) rfl (.bool true) (fun w => Eq.trans (b := .ok (.value (.bool (decide ((j : Int) < 16)))) w) (by kernel_rfl) (by rw [decide_eq_true (by omega)])) ?_
    refine pl_nil ?_
    refine au_then ?_
    refine wp_cond_true (by kernel_rfl) ?_
    refine wp_skip ?_
    refine au_then ?_
    refine wp_seq ?_
    refine wp_block ?_
    refine rg_lit ?_
    refine pl_val (want_no rfl) (some 25) rfl (.int .i64 (j : Int)) (fun _ => by kernel_rfl) ?_
    refine pl_val (want_no rfl) (some 26) rfl (.string key) (fun _ => by kernel_rfl) ?_
    refine pl_val (want_no rfl) (some 27) rfl (.int .i64 (j : Int)) (fun _ => by kernel_rfl) ?_
    refine pl_val (want_no rfl) (some 28) rfl (.int .u8 (bt key j)) (run_ixS 9 Tryd.underlying9 _ _ rfl key (by kernel_rfl) .i64 j (by kernel_rfl) (by omega)) ?_
    refine pl_val (want_no rfl) (some 29) rfl (.int .u64 (cv .u64 (bt key j))) (fun _ => by kernel_rfl) ?_
    refine pl_val (want_no rfl) (some 30) rfl (.pointer (some ⟨g1, j, none⟩)) (run_ix1 84 18 22 Tryd.underlying84 inz22 _ _ rfl g1 (by kernel_rfl) .i64 (j) (by kernel_rfl) (by omega)) ?_
    refine pl_put1 M (want_no rfl) rfl 22 _ _ rfl 0 g1 j (by kernel_rfl) 18 84 (w64 (rk key j)) rfl (.int .u64 (cv .u64 (bt key j))) (w64 (upd (rk key j) j (cv .u64 (bt key j)))) (by kernel_rfl) inz22 (by omega) rfl rfl (fun j _ => put_w64 _ _ _ j) ?_
    intro u2 M
    replace M : Mem ⟨w, []⟩ [⟨g1, .cells (av 18 (w64 (upd (rk key j) j (cv .u64 (bt key j))))) 84⟩] u2 := M
    refine pl_nil ?_
    refine au_block ?_
    refine au_then ?_
    refine rg_lit ?_
    refine pl_val (want_no rfl) (some 23) rfl (.int .i64 (j : Int)) (fun _ => by kernel_rfl) ?_
    refine pl_val (want_no rfl) (some 24) rfl (.int .i64 ((j + 1 : Nat) : Int)) (fun w => Eq.trans (b := .ok (.value (.int .i64 (IntKind.wrap .i64 ((j : Int) + 1)))) w) (by kernel_rfl) (by rw [wrap64 (by omega) (by omega)]; congr 3)) ?_
    refine pl_val (want_no rfl) (some 7) rfl (.int .i64 ((j + 1 : Nat) : Int)) (fun _ => by kernel_rfl) ?_
    refine pl_nil ?_
    refine au_then ?_
    exact ⟨fun k_ => ([.int .i64 (j : Int), .bool true, .int .i64 (j : Int), .int .i64 ((j + 1 : Nat) : Int), .int .i64 (j : Int), .string key, .int .i64 (j : Int), .int .u8 (bt key j), .int .u64 (cv .u64 (bt key j)), .pointer (some ⟨g1, j, none⟩)] : List Value).getD (k_ - 21) undef, by kernel_rfl, M⟩
  · intro a u0 hI
    obtain ⟨v1, rfl, M⟩ := hI
    refine wp_seq ?_
    refine wp_seq ?_
    refine rg_lit ?_
    refine pl_val (want_no rfl) (some 21) rfl (.int .i64 (16 : Int)) (fun _ => by kernel_rfl) ?_
    refine pl_val (want_no rfl) (some 22) rfl (.bool false) (fun w => Eq.trans (b := .ok (.value (.bool (decide (16 < 16)))) w) (by kernel_rfl) (by rw [decide_eq_false (by omega)])) ?_
    refine pl_nil ?_
    refine au_then ?_
    refine wp_cond_false (by kernel_rfl) ?_
    refine wp_exit ?_
    refine au_then_exit ?_
    refine au_then_exit ?_
    refine au_block_exit ?_
    refine au_then ?_
    refine wp_seq ?_
    refine wp_seq ?_
    refine rg_lit ?_
    refine pl_val (want_no rfl) (some 8) rfl (.int .i64 3) (fun _ => by kernel_rfl) ?_
    refine pl_nil ?_
    refine au_then ?_
    refine wp_block ?_
    refine wp_loop_rounds 5 ?_
    refine rounds_go ?_
    refine wp_seq ?_
    refine wp_seq ?_
    refine rg_lit ?_
    refine pl_val (want_no rfl) (some 31) rfl (.int .i64 3) (fun _ => by kernel_rfl) ?_
    refine pl_val (want_no rfl) (some 32) rfl (.bool true) (fun _ => by kernel_rfl) ?_
    refine pl_nil ?_
    refine au_then ?_
    refine wp_cond_true (by kernel_rfl) ?_
    refine wp_skip ?_
    refine au_then ?_
    refine wp_seq ?_
    refine wp_block ?_
    refine rg_lit ?_
    refine pl_val (want_no rfl) (some 35) rfl (.int .i64 3) (fun _ => by kernel_rfl) ?_
    refine pl_val (want_no rfl) (some 36) rfl (.int .i64 3) (fun _ => by kernel_rfl) ?_
    refine pl_val (want_no rfl) (some 37) rfl (.pointer (some ⟨g1, 3, none⟩)) (fun _ => by kernel_rfl) ?_
    refine pl_cell M (want_no rfl) (some 38) rfl 22 _ rfl g1 3 (by kernel_rfl) (.int .u64 ((rk key 16) 3)) (fun _ => by kernel_rfl) (fun w M => M.cell 0 rfl (by decide) rfl) ?_
    refine pl_val (want_no rfl) (some 39) rfl (.int .u64 (un ((rk key 16) 3) 15)) (fun _ => by kernel_rfl) ?_
    refine pl_val (want_no rfl) (some 40) rfl (.pointer (some ⟨g1, 3, none⟩)) (fun _ => by kernel_rfl) ?_
    refine pl_put1 M (want_no rfl) rfl 22 _ _ rfl 0 g1 3 (by kernel_rfl) 18 84 (w64 (rk key 16)) rfl (.int .u64 (un ((rk key 16) 3) 15)) (w64 (upd (rk key 16) 3 (un ((rk key 16) 3) 15))) (by kernel_rfl) inz22 (by decide) rfl rfl (fun j _ => put_w64 _ _ _ j) ?_
    intro u3 M
    replace M : Mem ⟨w, []⟩ [⟨g1, .cells (av 18 (w64 (upd (rk key 16) 3 (un ((rk key 16) 3) 15)))) 84⟩] u3 := M
    refine pl_nil ?_
    refine au_block ?_
    refine au_then ?_
    refine rg_lit ?_
    refine pl_val (want_no rfl) (some 33) rfl (.int .i64 3) (fun _ => by kernel_rfl) ?_
    refine pl_val (want_no rfl) (some 34) rfl (.int .i64 7) (fun _ => by kernel_rfl) ?_
    refine pl_val (want_no rfl) (some 8) rfl (.int .i64 7) (fun _ => by kernel_rfl) ?_
    refine pl_nil ?_
    refine au_then ?_
    refine rounds_go ?_
    refine wp_seq ?_
    refine wp_seq ?_
    refine rg_lit ?_
    refine pl_val (want_no rfl) (some 31) rfl (.int .i64 7) (fun _ => by kernel_rfl) ?_
    refine pl_val (want_no rfl) (some 32) rfl (.bool true) (fun _ => by kernel_rfl) ?_
    refine pl_nil ?_
    refine au_then ?_
    refine wp_cond_true (by kernel_rfl) ?_
    refine wp_skip ?_
    refine au_then ?_
    refine wp_seq ?_
    refine wp_block ?_
    refine rg_lit ?_
    refine pl_val (want_no rfl) (some 35) rfl (.int .i64 7) (fun _ => by kernel_rfl) ?_
    refine pl_val (want_no rfl) (some 36) rfl (.int .i64 7) (fun _ => by kernel_rfl) ?_
    refine pl_val (want_no rfl) (some 37) rfl (.pointer (some ⟨g1, 7, none⟩)) (fun _ => by kernel_rfl) ?_
    refine pl_cell M (want_no rfl) (some 38) rfl 22 _ rfl g1 7 (by kernel_rfl) (.int .u64 ((rk key 16) 7)) (fun _ => by kernel_rfl) (fun w M => M.cell 0 rfl (by decide) rfl) ?_
    refine pl_val (want_no rfl) (some 39) rfl (.int .u64 (un ((rk key 16) 7) 15)) (fun _ => by kernel_rfl) ?_
    refine pl_val (want_no rfl) (some 40) rfl (.pointer (some ⟨g1, 7, none⟩)) (fun _ => by kernel_rfl) ?_
    refine pl_put1 M (want_no rfl) rfl 22 _ _ rfl 0 g1 7 (by kernel_rfl) 18 84 (w64 (upd (rk key 16) 3 (un ((rk key 16) 3) 15))) rfl (.int .u64 (un ((rk key 16) 7) 15)) (w64 (upd (upd (rk key 16) 3 (un ((rk key 16) 3) 15)) 7 (un ((rk key 16) 7) 15))) (by kernel_rfl) inz22 (by decide) rfl rfl (fun j _ => put_w64 _ _ _ j) ?_
    intro u4 M
    replace M : Mem ⟨w, []⟩ [⟨g1, .cells (av 18 (w64 (upd (upd (rk key 16) 3 (un ((rk key 16) 3) 15)) 7 (un ((rk key 16) 7) 15)))) 84⟩] u4 := M
    refine pl_nil ?_
    refine au_block ?_
    refine au_then ?_
    refine rg_lit ?_
    refine pl_val (want_no rfl) (some 33) rfl (.int .i64 7) (fun _ => by kernel_rfl) ?_
    refine pl_val (want_no rfl) (some 34) rfl (.int .i64 11) (fun _ => by kernel_rfl) ?_
    refine pl_val (want_no rfl) (some 8) rfl (.int .i64 11) (fun _ => by kernel_rfl) ?_
    refine pl_nil ?_
    refine au_then ?_
    refine rounds_go ?_
    refine wp_seq ?_
    refine wp_seq ?_
    refine rg_lit ?_
    refine pl_val (want_no rfl) (some 31) rfl (.int .i64 11) (fun _ => by kernel_rfl) ?_
    refine pl_val (want_no rfl) (some 32) rfl (.bool true) (fun _ => by kernel_rfl) ?_
    refine pl_nil ?_
    refine au_then ?_
    refine wp_cond_true (by kernel_rfl) ?_
    refine wp_skip ?_
    refine au_then ?_
    refine wp_seq ?_
    refine wp_block ?_
    refine rg_lit ?_
    refine pl_val (want_no rfl) (some 35) rfl (.int .i64 11) (fun _ => by kernel_rfl) ?_
    refine pl_val (want_no rfl) (some 36) rfl (.int .i64 11) (fun _ => by kernel_rfl) ?_
    refine pl_val (want_no rfl) (some 37) rfl (.pointer (some ⟨g1, 11, none⟩)) (fun _ => by kernel_rfl) ?_
    refine pl_cell M (want_no rfl) (some 38) rfl 22 _ rfl g1 11 (by kernel_rfl) (.int .u64 ((rk key 16) 11)) (fun _ => by kernel_rfl) (fun w M => M.cell 0 rfl (by decide) rfl) ?_
    refine pl_val (want_no rfl) (some 39) rfl (.int .u64 (un ((rk key 16) 11) 15)) (fun _ => by kernel_rfl) ?_
    refine pl_val (want_no rfl) (some 40) rfl (.pointer (some ⟨g1, 11, none⟩)) (fun _ => by kernel_rfl) ?_
    refine pl_put1 M (want_no rfl) rfl 22 _ _ rfl 0 g1 11 (by kernel_rfl) 18 84 (w64 (upd (upd (rk key 16) 3 (un ((rk key 16) 3) 15)) 7 (un ((rk key 16) 7) 15))) rfl (.int .u64 (un ((rk key 16) 11) 15)) (w64 (upd (upd (upd (rk key 16) 3 (un ((rk key 16) 3) 15)) 7 (un ((rk key 16) 7) 15)) 11 (un ((rk key 16) 11) 15))) (by kernel_rfl) inz22 (by decide) rfl rfl (fun j _ => put_w64 _ _ _ j) ?_
    intro u5 M
    replace M : Mem ⟨w, []⟩ [⟨g1, .cells (av 18 (w64 (upd (upd (upd (rk key 16) 3 (un ((rk key 16) 3) 15)) 7 (un ((rk key 16) 7) 15)) 11 (un ((rk key 16) 11) 15)))) 84⟩] u5 := M
    refine pl_nil ?_
    refine au_block ?_
    refine au_then ?_
    refine rg_lit ?_
    refine pl_val (want_no rfl) (some 33) rfl (.int .i64 11) (fun _ => by kernel_rfl) ?_
    refine pl_val (want_no rfl) (some 34) rfl (.int .i64 15) (fun _ => by kernel_rfl) ?_
    refine pl_val (want_no rfl) (some 8) rfl (.int .i64 15) (fun _ => by kernel_rfl) ?_
    refine pl_nil ?_
    refine au_then ?_
    refine rounds_go ?_
    refine wp_seq ?_
    refine wp_seq ?_
    refine rg_lit ?_
    refine pl_val (want_no rfl) (some 31) rfl (.int .i64 15) (fun _ => by kernel_rfl) ?_
    refine pl_val (want_no rfl) (some 32) rfl (.bool true) (fun _ => by kernel_rfl) ?_
    refine pl_nil ?_
    refine au_then ?_
    refine wp_cond_true (by kernel_rfl) ?_
    refine wp_skip ?_
    refine au_then ?_
    refine wp_seq ?_
    refine wp_block ?_
    refine rg_lit ?_
    refine pl_val (want_no rfl) (some 35) rfl (.int .i64 15) (fun _ => by kernel_rfl) ?_
    refine pl_val (want_no rfl) (some 36) rfl (.int .i64 15) (fun _ => by kernel_rfl) ?_
    refine pl_val (want_no rfl) (some 37) rfl (.pointer (some ⟨g1, 15, none⟩)) (fun _ => by kernel_rfl) ?_
    refine pl_cell M (want_no rfl) (some 38) rfl 22 _ rfl g1 15 (by kernel_rfl) (.int .u64 ((rk key 16) 15)) (fun _ => by kernel_rfl) (fun w M => M.cell 0 rfl (by decide) rfl) ?_
    refine pl_val (want_no rfl) (some 39) rfl (.int .u64 (un ((rk key 16) 15) 15)) (fun _ => by kernel_rfl) ?_
    refine pl_val (want_no rfl) (some 40) rfl (.pointer (some ⟨g1, 15, none⟩)) (fun _ => by kernel_rfl) ?_
    refine pl_put1 M (want_no rfl) rfl 22 _ _ rfl 0 g1 15 (by kernel_rfl) 18 84 (w64 (upd (upd (upd (rk key 16) 3 (un ((rk key 16) 3) 15)) 7 (un ((rk key 16) 7) 15)) 11 (un ((rk key 16) 11) 15))) rfl (.int .u64 (un ((rk key 16) 15) 15)) (w64 (upd (upd (upd (upd (rk key 16) 3 (un ((rk key 16) 3) 15)) 7 (un ((rk key 16) 7) 15)) 11 (un ((rk key 16) 11) 15)) 15 (un ((rk key 16) 15) 15))) (by kernel_rfl) inz22 (by decide) rfl rfl (fun j _ => put_w64 _ _ _ j) ?_
    intro u6 M
    replace M : Mem ⟨w, []⟩ [⟨g1, .cells (av 18 (w64 (upd (upd (upd (upd (rk key 16) 3 (un ((rk key 16) 3) 15)) 7 (un ((rk key 16) 7) 15)) 11 (un ((rk key 16) 11) 15)) 15 (un ((rk key 16) 15) 15)))) 84⟩] u6 := M
    refine pl_nil ?_
    refine au_block ?_
    refine au_then ?_
    refine rg_lit ?_
    refine pl_val (want_no rfl) (some 33) rfl (.int .i64 15) (fun _ => by kernel_rfl) ?_
    refine pl_val (want_no rfl) (some 34) rfl (.int .i64 19) (fun _ => by kernel_rfl) ?_
    refine pl_val (want_no rfl) (some 8) rfl (.int .i64 19) (fun _ => by kernel_rfl) ?_
    refine pl_nil ?_
    refine au_then ?_
    refine rounds_go ?_
    refine wp_seq ?_
    refine wp_seq ?_
    refine rg_lit ?_
    refine pl_val (want_no rfl) (some 31) rfl (.int .i64 19) (fun _ => by kernel_rfl) ?_
    refine pl_val (want_no rfl) (some 32) rfl (.bool false) (fun _ => by kernel_rfl) ?_
    refine pl_nil ?_
    refine au_then ?_
    refine wp_cond_false (by kernel_rfl) ?_
    refine wp_exit ?_
    refine au_then_exit ?_
    refine au_then_exit ?_
    refine au_block_exit ?_
    refine au_then ?_
    refine wp_seq ?_
    refine wp_seq ?_
    refine rg_lit ?_
    refine pl_val (want_no rfl) (some 9) rfl (.int .i64 4) (fun _ => by kernel_rfl) ?_
    refine pl_nil ?_
    replace M : Mem ⟨w, []⟩ [⟨g1, .cells (av 18 (w64 (dm1 (rk key 16)))) 84⟩] u6 := M
    refine au_then ?_
    refine wp_block ?_
    refine wp_loop_rounds 4 ?_
    refine rounds_go ?_
    refine wp_seq ?_
    refine wp_seq ?_
    refine rg_lit ?_
    refine pl_val (want_no rfl) (some 41) rfl (.int .i64 4) (fun _ => by kernel_rfl) ?_
    refine pl_val (want_no rfl) (some 42) rfl (.bool true) (fun _ => by kernel_rfl) ?_
    refine pl_nil ?_
    refine au_then ?_
    refine wp_cond_true (by kernel_rfl) ?_
    refine wp_skip ?_
    refine au_then ?_
    refine wp_seq ?_
    refine wp_block ?_
    refine rg_lit ?_
    refine pl_val (want_no rfl) (some 45) rfl (.int .i64 4) (fun _ => by kernel_rfl) ?_
    refine pl_val (want_no rfl) (some 46) rfl (.int .i64 4) (fun _ => by kernel_rfl) ?_
    refine pl_val (want_no rfl) (some 47) rfl (.pointer (some ⟨g1, 4, none⟩)) (fun _ => by kernel_rfl) ?_
    refine pl_cell M (want_no rfl) (some 48) rfl 22 _ rfl g1 4 (by kernel_rfl) (.int .u64 ((dm1 (rk key 16)) 4)) (fun _ => by kernel_rfl) (fun w M => M.cell 0 rfl (by decide) rfl) ?_
    refine pl_val (want_no rfl) (some 49) rfl (.int .u64 (un ((dm1 (rk key 16)) 4) 252)) (fun _ => by kernel_rfl) ?_
    refine pl_val (want_no rfl) (some 50) rfl (.pointer (some ⟨g1, 4, none⟩)) (fun _ => by kernel_rfl) ?_
    refine pl_put1 M (want_no rfl) rfl 22 _ _ rfl 0 g1 4 (by kernel_rfl) 18 84 (w64 (dm1 (rk key 16))) rfl (.int .u64 (un ((dm1 (rk key 16)) 4) 252)) (w64 (upd (dm1 (rk key 16)) 4 (un ((dm1 (rk key 16)) 4) 252))) (by kernel_rfl) inz22 (by decide) rfl rfl (fun j _ => put_w64 _ _ _ j) ?_
    intro u7 M
    replace M : Mem ⟨w, []⟩ [⟨g1, .cells (av 18 (w64 (upd (dm1 (rk key 16)) 4 (un ((dm1 (rk key 16)) 4) 252)))) 84⟩] u7 := M
    refine pl_nil ?_
    refine au_block ?_
    refine au_then ?_
    refine rg_lit ?_
    refine pl_val (want_no rfl) (some 43) rfl (.int .i64 4) (fun _ => by kernel_rfl) ?_
    refine pl_val (want_no rfl) (some 44) rfl (.int .i64 8) (fun _ => by kernel_rfl) ?_
    refine pl_val (want_no rfl) (some 9) rfl (.int .i64 8) (fun _ => by kernel_rfl) ?_
    refine pl_nil ?_
    refine au_then ?_
    refine rounds_go ?_
    refine wp_seq ?_
    refine wp_seq ?_
    refine rg_lit ?_
    refine pl_val (want_no rfl) (some 41) rfl (.int .i64 8) (fun _ => by kernel_rfl) ?_
    refine pl_val (want_no rfl) (some 42) rfl (.bool true) (fun _ => by kernel_rfl) ?_
    refine pl_nil ?_
    refine au_then ?_
    refine wp_cond_true (by kernel_rfl) ?_
    refine wp_skip ?_
    refine au_then ?_
    refine wp_seq ?_
    refine wp_block ?_
    refine rg_lit ?_
    refine pl_val (want_no rfl) (some 45) rfl (.int .i64 8) (fun _ => by kernel_rfl) ?_
    refine pl_val (want_no rfl) (some 46) rfl (.int .i64 8) (fun _ => by kernel_rfl) ?_
    refine pl_val (want_no rfl) (some 47) rfl (.pointer (some ⟨g1, 8, none⟩)) (fun _ => by kernel_rfl) ?_
    refine pl_cell M (want_no rfl) (some 48) rfl 22 _ rfl g1 8 (by kernel_rfl) (.int .u64 ((dm1 (rk key 16)) 8)) (fun _ => by kernel_rfl) (fun w M => M.cell 0 rfl (by decide) rfl) ?_
    refine pl_val (want_no rfl) (some 49) rfl (.int .u64 (un ((dm1 (rk key 16)) 8) 252)) (fun _ => by kernel_rfl) ?_
    refine pl_val (want_no rfl) (some 50) rfl (.pointer (some ⟨g1, 8, none⟩)) (fun _ => by kernel_rfl) ?_
    refine pl_put1 M (want_no rfl) rfl 22 _ _ rfl 0 g1 8 (by kernel_rfl) 18 84 (w64 (upd (dm1 (rk key 16)) 4 (un ((dm1 (rk key 16)) 4) 252))) rfl (.int .u64 (un ((dm1 (rk key 16)) 8) 252)) (w64 (upd (upd (dm1 (rk key 16)) 4 (un ((dm1 (rk key 16)) 4) 252)) 8 (un ((dm1 (rk key 16)) 8) 252))) (by kernel_rfl) inz22 (by decide) rfl rfl (fun j _ => put_w64 _ _ _ j) ?_
    intro u8 M
    replace M : Mem ⟨w, []⟩ [⟨g1, .cells (av 18 (w64 (upd (upd (dm1 (rk key 16)) 4 (un ((dm1 (rk key 16)) 4) 252)) 8 (un ((dm1 (rk key 16)) 8) 252)))) 84⟩] u8 := M
    refine pl_nil ?_
    refine au_block ?_
    refine au_then ?_
    refine rg_lit ?_
    refine pl_val (want_no rfl) (some 43) rfl (.int .i64 8) (fun _ => by kernel_rfl) ?_
    refine pl_val (want_no rfl) (some 44) rfl (.int .i64 12) (fun _ => by kernel_rfl) ?_
    refine pl_val (want_no rfl) (some 9) rfl (.int .i64 12) (fun _ => by kernel_rfl) ?_
    refine pl_nil ?_
    refine au_then ?_
    refine rounds_go ?_
    refine wp_seq ?_
    refine wp_seq ?_
    refine rg_lit ?_
    refine pl_val (want_no rfl) (some 41) rfl (.int .i64 12) (fun _ => by kernel_rfl) ?_
    refine pl_val (want_no rfl) (some 42) rfl (.bool true) (fun _ => by kernel_rfl) ?_
    refine pl_nil ?_
    refine au_then ?_
    refine wp_cond_true (by kernel_rfl) ?_
    refine wp_skip ?_
    refine au_then ?_
    refine wp_seq ?_
    refine wp_block ?_
    refine rg_lit ?_
    refine pl_val (want_no rfl) (some 45) rfl (.int .i64 12) (fun _ => by kernel_rfl) ?_
    refine pl_val (want_no rfl) (some 46) rfl (.int .i64 12) (fun _ => by kernel_rfl) ?_
    refine pl_val (want_no rfl) (some 47) rfl (.pointer (some ⟨g1, 12, none⟩)) (fun _ => by kernel_rfl) ?_
    refine pl_cell M (want_no rfl) (some 48) rfl 22 _ rfl g1 12 (by kernel_rfl) (.int .u64 ((dm1 (rk key 16)) 12)) (fun _ => by kernel_rfl) (fun w M => M.cell 0 rfl (by decide) rfl) ?_
    refine pl_val (want_no rfl) (some 49) rfl (.int .u64 (un ((dm1 (rk key 16)) 12) 252)) (fun _ => by kernel_rfl) ?_
    refine pl_val (want_no rfl) (some 50) rfl (.pointer (some ⟨g1, 12, none⟩)) (fun _ => by kernel_rfl) ?_
    refine pl_put1 M (want_no rfl) rfl 22 _ _ rfl 0 g1 12 (by kernel_rfl) 18 84 (w64 (upd (upd (dm1 (rk key 16)) 4 (un ((dm1 (rk key 16)) 4) 252)) 8 (un ((dm1 (rk key 16)) 8) 252))) rfl (.int .u64 (un ((dm1 (rk key 16)) 12) 252)) (w64 (upd (upd (upd (dm1 (rk key 16)) 4 (un ((dm1 (rk key 16)) 4) 252)) 8 (un ((dm1 (rk key 16)) 8) 252)) 12 (un ((dm1 (rk key 16)) 12) 252))) (by kernel_rfl) inz22 (by decide) rfl rfl (fun j _ => put_w64 _ _ _ j) ?_
    intro u9 M
    replace M : Mem ⟨w, []⟩ [⟨g1, .cells (av 18 (w64 (upd (upd (upd (dm1 (rk key 16)) 4 (un ((dm1 (rk key 16)) 4) 252)) 8 (un ((dm1 (rk key 16)) 8) 252)) 12 (un ((dm1 (rk key 16)) 12) 252)))) 84⟩] u9 := M
    refine pl_nil ?_
    refine au_block ?_
    refine au_then ?_
    refine rg_lit ?_
    refine pl_val (want_no rfl) (some 43) rfl (.int .i64 12) (fun _ => by kernel_rfl) ?_
    refine pl_val (want_no rfl) (some 44) rfl (.int .i64 16) (fun _ => by kernel_rfl) ?_
    refine pl_val (want_no rfl) (some 9) rfl (.int .i64 16) (fun _ => by kernel_rfl) ?_
    refine pl_nil ?_
    refine au_then ?_
    refine rounds_go ?_
    refine wp_seq ?_
    refine wp_seq ?_
    refine rg_lit ?_
    refine pl_val (want_no rfl) (some 41) rfl (.int .i64 16) (fun _ => by kernel_rfl) ?_
    refine pl_val (want_no rfl) (some 42) rfl (.bool false) (fun _ => by kernel_rfl) ?_
    refine pl_nil ?_
    refine au_then ?_
    refine wp_cond_false (by kernel_rfl) ?_
    refine wp_exit ?_
    refine au_then_exit ?_
    refine au_then_exit ?_
    refine au_block_exit ?_
    refine au_then ?_
    refine wp_seq ?_
    replace M : Mem ⟨w, []⟩ [⟨g1, .cells (av 18 (w64 (drF key))) 84⟩] u9 := M
    refine rg_lit ?_
    refine pl_new M (want_no rfl) (some 10) rfl (.cells (av 18 (w64 (fun _ => 0))) 84) (fun _ => by kernel_rfl) ?_
    intro g2 u10 M
    replace M : Mem ⟨w, []⟩ [⟨g1, .cells (av 18 (w64 (drF key))) 84⟩, ⟨g2, .cells (av 18 (w64 (fun _ => 0))) 84⟩] u10 := M
    refine pl_nil ?_
    replace M : Mem ⟨w, []⟩ [⟨g1, .cells (av 18 (w64 (drF key))) 84⟩, ⟨g2, .cells (av 18 (w64 (dsm s (drF key) 0))) 84⟩] u10 := M
    refine au_then ?_
    refine wp_seq ?_
    refine wp_seq ?_
    refine rg_lit ?_
    refine pl_val (want_no rfl) (some 11) rfl (.int .i64 0) (fun _ => by kernel_rfl) ?_
    refine pl_nil ?_
    refine au_then ?_
    refine wp_block ?_
    refine au_loop (fun i a w' => ∃ v2 : Nat → Value, a = ⟨#[.string key, .string s, undef, undef, .string ⟨#[]⟩, .int .i64 0, .pointer (some ⟨g1, 0, none⟩), .int .i64 (16 : Int), .int .i64 19, .int .i64 16, .pointer (some ⟨g2, 0, none⟩), .int .i64 ((16 * i : Nat) : Int), v2 12, v2 13, undef, undef, undef, undef, .string key, .int .i64 (key.size : Int), .bool false, .int .i64 (16 : Int), .bool false, v1 23, v1 24, v1 25, v1 26, v1 27, v1 28, v1 29, v1 30, .int .i64 19, .bool false, .int .i64 15, .int .i64 19, .int .i64 15, .int .i64 15, .pointer (some ⟨g1, 15, none⟩), .int .u64 ((rk key 16) 15), .int .u64 (un ((rk key 16) 15) 15), .pointer (some ⟨g1, 15, none⟩), .int .i64 16, .bool false, .int .i64 12, .int .i64 16, .int .i64 12, .int .i64 12, .pointer (some ⟨g1, 12, none⟩), .int .u64 ((dm1 (rk key 16)) 12), .int .u64 (un ((dm1 (rk key 16)) 12) 252), .pointer (some ⟨g1, 12, none⟩), v2 51, v2 52, v2 53, v2 54, v2 55, v2 56, v2 57, v2 58, v2 59, v2 60, v2 61, v2 62, v2 63, v2 64, v2 65, v2 66, v2 67, v2 68, v2 69, v2 70, v2 71, v2 72, v2 73, v2 74, v2 75, v2 76, v2 77, v2 78, v2 79, v2 80, v2 81, v2 82, v2 83, v2 84, v2 85, v2 86, v2 87, v2 88, v2 89, v2 90, undef, undef, undef, undef, undef, undef, undef, undef, undef, undef, undef, undef, undef, undef, undef, undef, undef, undef, undef, undef, undef, undef, undef, undef, undef, undef, undef], []⟩ ∧ Mem ⟨w, []⟩ [⟨g1, .cells (av 18 (w64 (drF key))) 84⟩, ⟨g2, .cells (av 18 (w64 (dsm s (drF key) i))) 84⟩] w') ((s.size + 15) / 16) ⟨fun k_ => ([undef, undef, undef, undef, undef, undef, undef, undef, undef, undef, undef, undef, undef, undef, undef, undef, undef, undef, undef, undef, undef, undef, undef, undef, undef, undef, undef, undef, undef, undef, undef, undef, undef, undef, undef, undef, undef, undef, undef, undef, undef, undef, undef, undef, undef, undef, undef, undef, undef, undef, undef, undef, undef, undef, undef, undef, undef, undef, undef, undef, undef, undef, undef, undef, undef, undef, undef, undef, undef, undef, undef, undef, undef, undef, undef, undef, undef, undef, undef] : List Value).getD (k_ - 12) undef, by kernel_rfl, M⟩ ?_ ?_
    · intro i a u0 hi hI
      obtain ⟨v2, rfl, M⟩ := hI
      refine wp_seq ?_
      refine wp_seq ?_
      refine rg_lit ?_
      refine pl_val (want_no rfl) (some 51) rfl (.int .i64 ((16 * i : Nat) : Int)) (fun _ => by kernel_rfl) ?_
      refine pl_val (want_no rfl) (some 52) rfl (.string s) (fun _ => by kernel_rfl) ?_
      refine pl_val (want_no rfl) (some 53) rfl (.int .i64 (s.size : Int)) (fun _ => by kernel_rfl) ?_
      refine pl_val (want_no rfl) (some 54) rfl (.bool true) (fun w => Eq.trans (b := .ok (.value (.bool (decide (((16 * i : Nat) : Int) < ((s.size : Nat) : Int))))) w) (by kernel_rfl) (by rw [decide_eq_true (by omega)])) ?_
      refine pl_nil ?_
      refine au_then ?_
      refine wp_cond_true (by kernel_rfl) ?_
      refine wp_skip ?_
      refine au_then ?_
      refine wp_seq ?_
      refine wp_block ?_
      refine wp_seq ?_
      refine rg_lit ?_
      refine pl_val (want_no rfl) (some 57) rfl (.string s) (fun _ => by kernel_rfl) ?_
      refine pl_val (want_no rfl) (some 58) rfl (.int .i64 ((16 * i : Nat) : Int)) (fun _ => by kernel_rfl) ?_
      refine pl_val (want_no rfl) (some 59) rfl (.int .i64 ((16 * i : Nat) : Int)) (fun _ => by kernel_rfl) ?_
      refine pl_val (want_no rfl) (some 60) rfl (.int .i64 ((16 * i + 16 : Nat) : Int)) (fun w => Eq.trans (b := .ok (.value (.int .i64 (IntKind.wrap .i64 (((16 * i : Nat) : Int) + 16)))) w) (by kernel_rfl) (by rw [wrap64 (by omega) (by omega)]; congr 3)) ?_
      refine pl_val (want_no rfl) (some 61) rfl (.string s) (fun _ => by kernel_rfl) ?_
      refine pl_val (want_no rfl) (some 62) rfl (.int .i64 (s.size : Int)) (fun _ => by kernel_rfl) ?_
      refine pl_val (want_no rfl) (some 63) rfl (.int .i64 ((min (16 * i + 16) s.size : Nat) : Int)) (fun w => Eq.trans (b := .ok (.value (.int .i64 (if ((s.size : Nat) : Int) < ((16 * i + 16 : Nat) : Int) then ((s.size : Nat) : Int) else ((16 * i + 16 : Nat) : Int)))) w) (by kernel_rfl) (by rw [min_if (16 * i + 16) s.size])) ?_
      refine pl_val (want_no rfl) (some 64) rfl (.string (dpc s i)) (run_strlh 9 Tryd.underlying9 _ _ _ rfl s (by kernel_rfl) .i64 .i64 (16 * i) (min (16 * i + 16) s.size) (by kernel_rfl) (by kernel_rfl) (by omega) (by omega)) ?_
      refine pl_val (want_no rfl) (some 12) rfl (.string (dpc s i)) (fun _ => by kernel_rfl) ?_
      refine pl_nil ?_
      refine au_then ?_
      refine wp_seq ?_
      refine wp_seq ?_
      refine rg_lit ?_
      refine pl_val (want_no rfl) (some 13) rfl (.int .i64 0) (fun _ => by kernel_rfl) ?_
      refine pl_nil ?_
      refine au_then ?_
      refine wp_block ?_
      have hps := dpc_size s i
      obtain ⟨n, hn⟩ : ∃ n, n = (dpc s i).size := ⟨_, rfl⟩
      refine au_loop (fun j a w' => ∃ v3 : Nat → Value, a = ⟨#[.string key, .string s, undef, undef, .string ⟨#[]⟩, .int .i64 0, .pointer (some ⟨g1, 0, none⟩), .int .i64 (16 : Int), .int .i64 19, .int .i64 16, .pointer (some ⟨g2, 0, none⟩), .int .i64 ((16 * i : Nat) : Int), .string (dpc s i), .int .i64 (j : Int), undef, undef, undef, undef, .string key, .int .i64 (key.size : Int), .bool false, .int .i64 (16 : Int), .bool false, v1 23, v1 24, v1 25, v1 26, v1 27, v1 28, v1 29, v1 30, .int .i64 19, .bool false, .int .i64 15, .int .i64 19, .int .i64 15, .int .i64 15, .pointer (some ⟨g1, 15, none⟩), .int .u64 ((rk key 16) 15), .int .u64 (un ((rk key 16) 15) 15), .pointer (some ⟨g1, 15, none⟩), .int .i64 16, .bool false, .int .i64 12, .int .i64 16, .int .i64 12, .int .i64 12, .pointer (some ⟨g1, 12, none⟩), .int .u64 ((dm1 (rk key 16)) 12), .int .u64 (un ((dm1 (rk key 16)) 12) 252), .pointer (some ⟨g1, 12, none⟩), .int .i64 ((16 * i : Nat) : Int), .string s, .int .i64 (s.size : Int), .bool true, v2 55, v2 56, .string s, .int .i64 ((16 * i : Nat) : Int), .int .i64 ((16 * i : Nat) : Int), .int .i64 ((16 * i + 16 : Nat) : Int), .string s, .int .i64 (s.size : Int), .int .i64 ((min (16 * i + 16) s.size : Nat) : Int), .string (dpc s i), v3 65, v3 66, v3 67, v3 68, v3 69, v3 70, v3 71, v3 72, v3 73, v3 74, v3 75, v3 76, v3 77, v3 78, v3 79, v3 80, v2 81, v2 82, v2 83, v2 84, v2 85, v2 86, v2 87, v2 88, v2 89, v2 90, undef, undef, undef, undef, undef, undef, undef, undef, undef, undef, undef, undef, undef, undef, undef, undef, undef, undef, undef, undef, undef, undef, undef, undef, undef, undef, undef], []⟩ ∧ Mem ⟨w, []⟩ [⟨g1, .cells (av 18 (w64 (drF key))) 84⟩, ⟨g2, .cells (av 18 (w64 (dpa (dsm s (drF key) i) (dpc s i) j))) 84⟩] w') (dpc s i).size ⟨fun k_ => ([v2 65, v2 66, v2 67, v2 68, v2 69, v2 70, v2 71, v2 72, v2 73, v2 74, v2 75, v2 76, v2 77, v2 78, v2 79, v2 80] : List Value).getD (k_ - 65) undef, by kernel_rfl, M⟩ ?_ ?_
      · intro j a u0 hj hI
        obtain ⟨v3, rfl, M⟩ := hI
        refine wp_seq ?_
        refine wp_seq ?_
        refine rg_lit ?_
        refine pl_val (want_no rfl) (some 65) rfl (.int .i64 (j : Int)) (fun _ => by kernel_rfl) ?_
        refine pl_val (want_no rfl) (some 66) rfl (.string (dpc s i)) (fun _ => by kernel_rfl) ?_
        refine pl_val (want_no rfl) (some 67) rfl (.int .i64 ((dpc s i).size : Int)) (fun _ => by kernel_rfl) ?_
        refine pl_val (want_no rfl) (some 68) rfl (.bool true) (fun w => Eq.trans (b := .ok (.value (.bool (decide ((j : Int) < ((dpc s i).size : Int))))) w) (by kernel_rfl) (by rw [decide_eq_true (by omega)])) ?_
        refine pl_nil ?_
        refine au_then ?_
        refine wp_cond_true (by kernel_rfl) ?_
        refine wp_skip ?_
        refine au_then ?_
        refine wp_seq ?_
        refine wp_block ?_
        refine rg_tail M 10 (by kernel_rfl) (by kernel_rfl) ?_
        simp only [List.take_succ_cons, List.take_zero]
        refine k_val (want_no rfl) (some 71) rfl (.int .i64 (j : Int)) (fun _ => by kernel_rfl) ?_
        refine k_val (want_no rfl) (some 72) rfl (.int .i64 (j : Int)) (fun _ => by kernel_rfl) ?_
        refine k_val (want_no rfl) (some 73) rfl (.pointer (some ⟨g2, j, none⟩)) (run_ix1 84 18 22 Tryd.underlying84 inz22 _ _ rfl g2 (by kernel_rfl) .i64 (j) (by kernel_rfl) (by omega)) ?_
        refine k_cell M (want_no rfl) (some 74) rfl 22 _ rfl g2 j (by kernel_rfl) (.int .u64 ((dpa (dsm s (drF key) i) (dpc s i) j) j)) (fun _ => by kernel_rfl) (fun w M => M.cell 1 rfl (by omega) rfl) ?_
        refine k_val (want_no rfl) (some 75) rfl (.string (dpc s i)) (fun _ => by kernel_rfl) ?_
        refine k_val (want_no rfl) (some 76) rfl (.int .i64 (j : Int)) (fun _ => by kernel_rfl) ?_
        refine k_val (want_no rfl) (some 77) rfl (.int .u8 (bt (dpc s i) j)) (run_ixS 9 Tryd.underlying9 _ _ rfl (dpc s i) (by kernel_rfl) .i64 j (by kernel_rfl) (hj)) ?_
        refine k_val (want_no rfl) (some 78) rfl (.int .u64 (cv .u64 (bt (dpc s i) j))) (fun _ => by kernel_rfl) ?_
        refine k_val (want_no rfl) (some 79) rfl (.int .u64 (ua ((dpa (dsm s (drF key) i) (dpc s i) j) j) (cv .u64 (bt (dpc s i) j)))) (fun _ => by kernel_rfl) ?_
        refine k_val (want_no rfl) (some 80) rfl (.pointer (some ⟨g2, j, none⟩)) (run_ix1 84 18 22 Tryd.underlying84 inz22 _ _ rfl g2 (by kernel_rfl) .i64 (j) (by kernel_rfl) (by omega)) ?_
        refine kl_nil ?_
        intro u11 M
        replace M : Mem ⟨w, []⟩ [⟨g1, .cells (av 18 (w64 (drF key))) 84⟩, ⟨g2, .cells (av 18 (w64 (dpa (dsm s (drF key) i) (dpc s i) j))) 84⟩] u11 := M
        refine pl_put1 M (want_no rfl) rfl 22 _ _ rfl 1 g2 j (by kernel_rfl) 18 84 (w64 (dpa (dsm s (drF key) i) (dpc s i) j)) rfl (.int .u64 (ua ((dpa (dsm s (drF key) i) (dpc s i) j) j) (cv .u64 (bt (dpc s i) j)))) (w64 (upd (dpa (dsm s (drF key) i) (dpc s i) j) j (ua ((dpa (dsm s (drF key) i) (dpc s i) j) j) (cv .u64 (bt (dpc s i) j))))) (by kernel_rfl) inz22 (by omega) rfl rfl (fun j _ => put_w64 _ _ _ j) ?_
        intro u12 M
        replace M : Mem ⟨w, []⟩ [⟨g1, .cells (av 18 (w64 (drF key))) 84⟩, ⟨g2, .cells (av 18 (w64 (upd (dpa (dsm s (drF key) i) (dpc s i) j) j (ua ((dpa (dsm s (drF key) i) (dpc s i) j) j) (cv .u64 (bt (dpc s i) j)))))) 84⟩] u12 := M
        refine pl_nil ?_
        refine au_block ?_
        refine au_then ?_
        refine rg_lit ?_
        refine pl_val (want_no rfl) (some 69) rfl (.int .i64 (j : Int)) (fun _ => by kernel_rfl) ?_
        refine pl_val (want_no rfl) (some 70) rfl (.int .i64 ((j + 1 : Nat) : Int)) (fun w => Eq.trans (b := .ok (.value (.int .i64 (IntKind.wrap .i64 ((j : Int) + 1)))) w) (by kernel_rfl) (by rw [wrap64 (by omega) (by omega)]; congr 3)) ?_
        refine pl_val (want_no rfl) (some 13) rfl (.int .i64 ((j + 1 : Nat) : Int)) (fun _ => by kernel_rfl) ?_
        refine pl_nil ?_
        refine au_then ?_
        exact ⟨fun k_ => ([.int .i64 (j : Int), .string (dpc s i), .int .i64 ((dpc s i).size : Int), .bool true, .int .i64 (j : Int), .int .i64 ((j + 1 : Nat) : Int), .int .i64 (j : Int), .int .i64 (j : Int), .pointer (some ⟨g2, j, none⟩), .int .u64 ((dpa (dsm s (drF key) i) (dpc s i) j) j), .string (dpc s i), .int .i64 (j : Int), .int .u8 (bt (dpc s i) j), .int .u64 (cv .u64 (bt (dpc s i) j)), .int .u64 (ua ((dpa (dsm s (drF key) i) (dpc s i) j) j) (cv .u64 (bt (dpc s i) j))), .pointer (some ⟨g2, j, none⟩)] : List Value).getD (k_ - 65) undef, by kernel_rfl, M⟩
      · intro a u0 hI
        obtain ⟨v3, rfl, M⟩ := hI
        refine wp_seq ?_
        refine wp_seq ?_
        refine rg_lit ?_
        refine pl_val (want_no rfl) (some 65) rfl (.int .i64 (((dpc s i).size : Nat) : Int)) (fun _ => by kernel_rfl) ?_
        refine pl_val (want_no rfl) (some 66) rfl (.string (dpc s i)) (fun _ => by kernel_rfl) ?_
        refine pl_val (want_no rfl) (some 67) rfl (.int .i64 ((dpc s i).size : Int)) (fun _ => by kernel_rfl) ?_
        refine pl_val (want_no rfl) (some 68) rfl (.bool false) (fun w => Eq.trans (b := .ok (.value (.bool (decide (((dpc s i).size : Int) < ((dpc s i).size : Int))))) w) (by kernel_rfl) (by rw [decide_eq_false (by omega)])) ?_
        refine pl_nil ?_
        refine au_then ?_
        refine wp_cond_false (by kernel_rfl) ?_
        refine wp_exit ?_
        refine au_then_exit ?_
        refine au_then_exit ?_
        refine au_block_exit ?_
        refine au_then ?_
        refine wp_seq ?_
        refine rg_lit ?_
        refine pl_val (want_no rfl) (some 81) rfl (.string (dpc s i)) (fun _ => by kernel_rfl) ?_
        refine pl_val (want_no rfl) (some 82) rfl (.int .i64 ((dpc s i).size : Int)) (fun _ => by kernel_rfl) ?_
        refine pl_val (want_no rfl) (some 83) rfl (.pointer (some ⟨g2, (dpc s i).size, none⟩)) (run_ix1 84 18 22 Tryd.underlying84 inz22 _ _ rfl g2 (by kernel_rfl) .i64 (dpc s i).size (by kernel_rfl) (by omega)) ?_
        refine pl_cell M (want_no rfl) (some 84) rfl 22 _ rfl g2 (dpc s i).size (by kernel_rfl) (.int .u64 ((dpa (dsm s (drF key) i) (dpc s i) (dpc s i).size) (dpc s i).size)) (fun _ => by kernel_rfl) (fun w M => M.cell 1 rfl (by omega) rfl) ?_
        refine pl_val (want_no rfl) (some 85) rfl (.int .u64 (ua ((dpa (dsm s (drF key) i) (dpc s i) (dpc s i).size) (dpc s i).size) 1)) (fun _ => by kernel_rfl) ?_
        refine pl_val (want_no rfl) (some 86) rfl (.pointer (some ⟨g2, (dpc s i).size, none⟩)) (run_ix1 84 18 22 Tryd.underlying84 inz22 _ _ rfl g2 (by kernel_rfl) .i64 (dpc s i).size (by kernel_rfl) (by omega)) ?_
        refine pl_put1 M (want_no rfl) rfl 22 _ _ rfl 1 g2 (dpc s i).size (by kernel_rfl) 18 84 (w64 (dpa (dsm s (drF key) i) (dpc s i) (dpc s i).size)) rfl (.int .u64 (ua ((dpa (dsm s (drF key) i) (dpc s i) (dpc s i).size) (dpc s i).size) 1)) (w64 (upd (dpa (dsm s (drF key) i) (dpc s i) (dpc s i).size) (dpc s i).size (ua ((dpa (dsm s (drF key) i) (dpc s i) (dpc s i).size) (dpc s i).size) 1))) (by kernel_rfl) inz22 (by omega) rfl rfl (fun j _ => put_w64 _ _ _ j) ?_
        intro u13 M
        replace M : Mem ⟨w, []⟩ [⟨g1, .cells (av 18 (w64 (drF key))) 84⟩, ⟨g2, .cells (av 18 (w64 (upd (dpa (dsm s (drF key) i) (dpc s i) (dpc s i).size) (dpc s i).size (ua ((dpa (dsm s (drF key) i) (dpc s i) (dpc s i).size) (dpc s i).size) 1)))) 84⟩] u13 := M
        refine pl_nil ?_
        replace M : Mem ⟨w, []⟩ [⟨g1, .cells (av 18 (w64 (drF key))) 84⟩, ⟨g2, .cells (av 18 (w64 (dpp (dsm s (drF key) i) (dpc s i)))) 84⟩] u13 := M
        refine au_then ?_
        refine rg_tail M 4 (by kernel_rfl) (by kernel_rfl) ?_
        simp only [List.take_succ_cons, List.take_zero]
        refine k_load M (want_no rfl) (some 87) rfl 84 _ rfl 1 g2 0 (by kernel_rfl) 18 84 (w64 (dpp (dsm s (drF key) i) (dpc s i))) rfl 18 (w64 (dpp (dsm s (drF key) i) (dpc s i))) (fun j _ => by rw [Nat.zero_add]) (by decide) _ Tryd.underlying84 rfl inz84 ?_
        refine k_call M (want_no rfl) (some 88) rfl 51 #[.agg (av 18 (w64 (dpp (dsm s (drF key) i) (dpc s i))))] (.agg (av 18 (w64 (dcF (dpp (dsm s (drF key) i) (dpc s i)))))) (fun _ => by kernel_rfl) (fun w M => d_carry _ w M.laid) ?_
        refine k_load M (want_no rfl) (some 89) rfl 84 _ rfl 0 g1 0 (by kernel_rfl) 18 84 (w64 (drF key)) rfl 18 (w64 (drF key)) (fun j _ => by rw [Nat.zero_add]) (by decide) _ Tryd.underlying84 rfl inz84 ?_
        refine k_call M (want_no rfl) (some 90) rfl 50 #[.agg (av 18 (w64 (dcF (dpp (dsm s (drF key) i) (dpc s i))))), .agg (av 18 (w64 (drF key)))] (.agg (av 18 (w64 (dnx s (drF key) (dsm s (drF key) i) i)))) (fun _ => by kernel_rfl) (fun w M => d_times _ _ w M.laid) ?_
        refine kl_nil ?_
        intro u14 M
        replace M : Mem ⟨w, []⟩ [⟨g1, .cells (av 18 (w64 (drF key))) 84⟩, ⟨g2, .cells (av 18 (w64 (dpp (dsm s (drF key) i) (dpc s i)))) 84⟩] u14 := M
        refine pl_put M (want_no rfl) rfl 84 _ _ rfl 1 g2 0 (by kernel_rfl) 18 84 (w64 (dpp (dsm s (drF key) i) (dpc s i))) rfl 18 (w64 (dnx s (drF key) (dsm s (drF key) i) i)) (w64 (dnx s (drF key) (dsm s (drF key) i) i)) (by kernel_rfl) inz84 (by decide) (fun _ _ => rfl) (fun j hj => by rw [if_pos (by omega), Nat.sub_zero]) ?_
        intro u15 M
        replace M : Mem ⟨w, []⟩ [⟨g1, .cells (av 18 (w64 (drF key))) 84⟩, ⟨g2, .cells (av 18 (w64 (dnx s (drF key) (dsm s (drF key) i) i))) 84⟩] u15 := M
        refine pl_nil ?_
        refine au_block ?_
        refine au_then ?_
        refine rg_lit ?_
        refine pl_val (want_no rfl) (some 55) rfl (.int .i64 ((16 * i : Nat) : Int)) (fun _ => by kernel_rfl) ?_
        refine pl_val (want_no rfl) (some 56) rfl (.int .i64 ((16 * (i + 1) : Nat) : Int)) (fun w => Eq.trans (b := .ok (.value (.int .i64 (IntKind.wrap .i64 (((16 * i : Nat) : Int) + 16)))) w) (by kernel_rfl) (by rw [wrap64 (by omega) (by omega)]; congr 3)) ?_
        refine pl_val (want_no rfl) (some 11) rfl (.int .i64 ((16 * (i + 1) : Nat) : Int)) (fun _ => by kernel_rfl) ?_
        refine pl_nil ?_
        refine au_then ?_
        exact ⟨fun k_ => ([.string (dpc s i), .int .i64 (((dpc s i).size : Nat) : Int), undef, undef, undef, undef, undef, undef, undef, undef, undef, undef, undef, undef, undef, undef, undef, undef, undef, undef, undef, undef, undef, undef, undef, undef, undef, undef, undef, undef, undef, undef, undef, undef, undef, undef, undef, undef, undef, .int .i64 ((16 * i : Nat) : Int), .string s, .int .i64 (s.size : Int), .bool true, .int .i64 ((16 * i : Nat) : Int), .int .i64 ((16 * (i + 1) : Nat) : Int), .string s, .int .i64 ((16 * i : Nat) : Int), .int .i64 ((16 * i : Nat) : Int), .int .i64 ((16 * i + 16 : Nat) : Int), .string s, .int .i64 (s.size : Int), .int .i64 ((min (16 * i + 16) s.size : Nat) : Int), .string (dpc s i), .int .i64 (((dpc s i).size : Nat) : Int), .string (dpc s i), .int .i64 ((dpc s i).size : Int), .bool false, v3 69, v3 70, v3 71, v3 72, v3 73, v3 74, v3 75, v3 76, v3 77, v3 78, v3 79, v3 80, .string (dpc s i), .int .i64 ((dpc s i).size : Int), .pointer (some ⟨g2, (dpc s i).size, none⟩), .int .u64 ((dpa (dsm s (drF key) i) (dpc s i) (dpc s i).size) (dpc s i).size), .int .u64 (ua ((dpa (dsm s (drF key) i) (dpc s i) (dpc s i).size) (dpc s i).size) 1), .pointer (some ⟨g2, (dpc s i).size, none⟩), .agg (av 18 (w64 (dpp (dsm s (drF key) i) (dpc s i)))), .agg (av 18 (w64 (dcF (dpp (dsm s (drF key) i) (dpc s i))))), .agg (av 18 (w64 (drF key))), .agg (av 18 (w64 (dnx s (drF key) (dsm s (drF key) i) i)))] : List Value).getD (k_ - 12) undef, by kernel_rfl, M⟩
    · intro a u0 hI
      obtain ⟨v2, rfl, M⟩ := hI
      refine wp_seq ?_
      refine wp_seq ?_
      refine rg_lit ?_
      refine pl_val (want_no rfl) (some 51) rfl (.int .i64 ((16 * ((s.size + 15) / 16) : Nat) : Int)) (fun _ => by kernel_rfl) ?_
      refine pl_val (want_no rfl) (some 52) rfl (.string s) (fun _ => by kernel_rfl) ?_
      refine pl_val (want_no rfl) (some 53) rfl (.int .i64 (s.size : Int)) (fun _ => by kernel_rfl) ?_
      refine pl_val (want_no rfl) (some 54) rfl (.bool false) (fun w => Eq.trans (b := .ok (.value (.bool (decide (((16 * ((s.size + 15) / 16) : Nat) : Int) < ((s.size : Nat) : Int))))) w) (by kernel_rfl) (by rw [decide_eq_false (by omega)])) ?_
      refine pl_nil ?_
      refine au_then ?_
      refine wp_cond_false (by kernel_rfl) ?_
      refine wp_exit ?_
      refine au_then_exit ?_
      refine au_then_exit ?_
      refine au_block_exit ?_
      refine au_then ?_
      refine wp_seq ?_
      refine rg_lit ?_
      refine pl_load M (want_no rfl) (some 91) rfl 84 _ rfl 1 g2 0 (by kernel_rfl) 18 84 (w64 (dsm s (drF key) ((s.size + 15) / 16))) rfl 18 (w64 (dsm s (drF key) ((s.size + 15) / 16))) (fun j _ => by rw [Nat.zero_add]) (by decide) _ Tryd.underlying84 rfl inz84 ?_
      refine pl_call M (want_no rfl) (some 92) rfl 52 #[.agg (av 18 (w64 (dsm s (drF key) ((s.size + 15) / 16))))] (.agg (av 18 (w64 (dh key s)))) (fun _ => by kernel_rfl) (fun w M => d_whole _ w M.laid) ?_
      intro u16 M
      refine pl_put M (want_no rfl) rfl 84 _ _ rfl 1 g2 0 (by kernel_rfl) 18 84 (w64 (dsm s (drF key) ((s.size + 15) / 16))) rfl 18 (w64 (dh key s)) (w64 (dh key s)) (by kernel_rfl) inz84 (by decide) (fun _ _ => rfl) (fun j hj => by rw [if_pos (by omega), Nat.sub_zero]) ?_
      intro u17 M
      replace M : Mem ⟨w, []⟩ [⟨g1, .cells (av 18 (w64 (drF key))) 84⟩, ⟨g2, .cells (av 18 (w64 (dh key s))) 84⟩] u17 := M
      refine pl_nil ?_
      refine au_then ?_
      refine wp_seq ?_
      refine rg_lit ?_
      refine pl_val (want_no rfl) (some 14) rfl (.int .u64 0) (fun _ => by kernel_rfl) ?_
      refine pl_nil ?_
      refine au_then ?_
      refine wp_seq ?_
      refine rg_lit ?_
      refine pl_mk M (want_no rfl) (some 93) rfl (fun g3 => .slice (some ⟨g3, 0, none⟩) 16 16) (.cells (av 16 (w8 (dbs (dsg key (dh key s)) 0))) 5) (fun _ => by kernel_rfl) ?_
      intro g3 u18 M
      replace M : Mem ⟨w, []⟩ [⟨g1, .cells (av 18 (w64 (drF key))) 84⟩, ⟨g2, .cells (av 18 (w64 (dh key s))) 84⟩, ⟨g3, .cells (av 16 (w8 (dbs (dsg key (dh key s)) 0))) 5⟩] u18 := M
      refine pl_val (want_no rfl) (some 15) rfl (.slice (some ⟨g3, 0, none⟩) 16 16) (fun _ => by kernel_rfl) ?_
      refine pl_nil ?_
      refine au_then ?_
      refine wp_seq ?_
      refine wp_seq ?_
      refine rg_lit ?_
      refine pl_val (want_no rfl) (some 16) rfl (.int .i64 0) (fun _ => by kernel_rfl) ?_
      refine pl_nil ?_
      refine au_then ?_
      refine wp_block ?_
      refine au_loop (fun j a w' => ∃ v4 : Nat → Value, a = ⟨#[.string key, .string s, undef, undef, .string ⟨#[]⟩, .int .i64 0, .pointer (some ⟨g1, 0, none⟩), .int .i64 (16 : Int), .int .i64 19, .int .i64 16, .pointer (some ⟨g2, 0, none⟩), .int .i64 ((16 * ((s.size + 15) / 16) : Nat) : Int), v2 12, v2 13, .int .u64 (cy 8 (dsg key (dh key s)) j), .slice (some ⟨g3, 0, none⟩) 16 16, .int .i64 (j : Int), v4 17, .string key, .int .i64 (key.size : Int), .bool false, .int .i64 (16 : Int), .bool false, v1 23, v1 24, v1 25, v1 26, v1 27, v1 28, v1 29, v1 30, .int .i64 19, .bool false, .int .i64 15, .int .i64 19, .int .i64 15, .int .i64 15, .pointer (some ⟨g1, 15, none⟩), .int .u64 ((rk key 16) 15), .int .u64 (un ((rk key 16) 15) 15), .pointer (some ⟨g1, 15, none⟩), .int .i64 16, .bool false, .int .i64 12, .int .i64 16, .int .i64 12, .int .i64 12, .pointer (some ⟨g1, 12, none⟩), .int .u64 ((dm1 (rk key 16)) 12), .int .u64 (un ((dm1 (rk key 16)) 12) 252), .pointer (some ⟨g1, 12, none⟩), .int .i64 ((16 * ((s.size + 15) / 16) : Nat) : Int), .string s, .int .i64 (s.size : Int), .bool false, v2 55, v2 56, v2 57, v2 58, v2 59, v2 60, v2 61, v2 62, v2 63, v2 64, v2 65, v2 66, v2 67, v2 68, v2 69, v2 70, v2 71, v2 72, v2 73, v2 74, v2 75, v2 76, v2 77, v2 78, v2 79, v2 80, v2 81, v2 82, v2 83, v2 84, v2 85, v2 86, v2 87, v2 88, v2 89, v2 90, .agg (av 18 (w64 (dsm s (drF key) ((s.size + 15) / 16)))), .agg (av 18 (w64 (dh key s))), .slice (some ⟨g3, 0, none⟩) 16 16, v4 94, v4 95, v4 96, v4 97, v4 98, v4 99, v4 100, v4 101, v4 102, v4 103, v4 104, v4 105, v4 106, v4 107, v4 108, v4 109, v4 110, v4 111, v4 112, v4 113, v4 114, v4 115, undef, undef], []⟩ ∧ Mem ⟨w, []⟩ [⟨g1, .cells (av 18 (w64 (drF key))) 84⟩, ⟨g2, .cells (av 18 (w64 (dh key s))) 84⟩, ⟨g3, .cells (av 16 (w8 (dbs (dsg key (dh key s)) j))) 5⟩] w') 16 ⟨fun k_ => ([undef, undef, undef, undef, undef, undef, undef, undef, undef, undef, undef, undef, undef, undef, undef, undef, undef, undef, undef, undef, undef, undef, undef, undef, undef, undef, undef, undef, undef, undef, undef, undef, undef, undef, undef, undef, undef, undef, undef, undef, undef, undef, undef, undef, undef, undef, undef, undef, undef, undef, undef, undef, undef, undef, undef, undef, undef, undef, undef, undef, undef, undef, undef, undef, undef, undef, undef, undef, undef, undef, undef, undef, undef, undef, undef, undef, undef, undef, undef, undef, undef, undef, undef, undef, undef, undef, undef, undef, undef, undef, undef, undef, undef, undef, undef, undef, undef, undef, undef] : List Value).getD (k_ - 17) undef, by kernel_rfl, M⟩ ?_ ?_
      · intro j a u0 hj hI
        obtain ⟨v4, rfl, M⟩ := hI
        refine wp_seq ?_
        refine wp_seq ?_
        refine rg_lit ?_
        refine pl_val (want_no rfl) (some 94) rfl (.int .i64 (j : Int)) (fun _ => by kernel_rfl) ?_
        refine pl_val (want_no rfl) (some 95) rfl (.bool true) (fun w => Eq.trans (b := .ok (.value (.bool (decide ((j : Int) < 16)))) w) (by kernel_rfl) (by rw [decide_eq_true (by omega)])) ?_
        refine pl_nil ?_
        refine au_then ?_
        refine wp_cond_true (by kernel_rfl) ?_
        refine wp_skip ?_
        refine au_then ?_
        refine wp_seq ?_
        refine wp_block ?_
        refine wp_seq ?_
        refine rg_tail M 11 (by kernel_rfl) (by kernel_rfl) ?_
        simp only [List.take_succ_cons, List.take_zero]
        refine k_val (want_no rfl) (some 98) rfl (.int .i64 (j : Int)) (fun _ => by kernel_rfl) ?_
        refine k_val (want_no rfl) (some 99) rfl (.pointer (some ⟨g2, j, none⟩)) (run_ix1 84 18 22 Tryd.underlying84 inz22 _ _ rfl g2 (by kernel_rfl) .i64 (j) (by kernel_rfl) (by omega)) ?_
        refine k_cell M (want_no rfl) (some 100) rfl 22 _ rfl g2 j (by kernel_rfl) (.int .u64 ((dh key s) j)) (fun _ => by kernel_rfl) (fun w M => M.cell 1 rfl (by omega) rfl) ?_
        refine k_val (want_no rfl) (some 101) rfl (.string key) (fun _ => by kernel_rfl) ?_
        refine k_val (want_no rfl) (some 102) rfl (.int .i64 (j : Int)) (fun _ => by kernel_rfl) ?_
        refine k_val (want_no rfl) (some 103) rfl (.int .i64 ((16 + j : Nat) : Int)) (fun w => Eq.trans (b := .ok (.value (.int .i64 (IntKind.wrap .i64 (16 + (j : Int))))) w) (by kernel_rfl) (by rw [wrap64 (by omega) (by omega)]; congr 3)) ?_
        refine k_val (want_no rfl) (some 104) rfl (.int .u8 (bt key (16 + j))) (run_ixS 9 Tryd.underlying9 _ _ rfl key (by kernel_rfl) .i64 (16 + j) (by kernel_rfl) (by omega)) ?_
        refine k_val (want_no rfl) (some 105) rfl (.int .u64 (cv .u64 (bt key (16 + j)))) (fun _ => by kernel_rfl) ?_
        refine k_val (want_no rfl) (some 106) rfl (.int .u64 (ua ((dh key s) j) (cv .u64 (bt key (16 + j))))) (fun _ => by kernel_rfl) ?_
        refine k_val (want_no rfl) (some 107) rfl (.int .u64 (cy 8 (dsg key (dh key s)) j)) (fun _ => by kernel_rfl) ?_
        refine k_val (want_no rfl) (some 108) rfl (.int .u64 (ua (ua ((dh key s) j) (cv .u64 (bt key (16 + j)))) (cy 8 (dsg key (dh key s)) j))) (fun _ => by kernel_rfl) ?_
        refine kl_nil ?_
        intro u19 M
        replace M : Mem ⟨w, []⟩ [⟨g1, .cells (av 18 (w64 (drF key))) 84⟩, ⟨g2, .cells (av 18 (w64 (dh key s))) 84⟩, ⟨g3, .cells (av 16 (w8 (dbs (dsg key (dh key s)) j))) 5⟩] u19 := M
        refine pl_val (want_no rfl) (some 17) rfl (.int .u64 (ua (ua ((dh key s) j) (cv .u64 (bt key (16 + j)))) (cy 8 (dsg key (dh key s)) j))) (fun _ => by kernel_rfl) ?_
        refine pl_nil ?_
        refine au_then ?_
        refine wp_seq ?_
        refine rg_lit ?_
        refine pl_val (want_no rfl) (some 109) rfl (.slice (some ⟨g3, 0, none⟩) 16 16) (fun _ => by kernel_rfl) ?_
        refine pl_val (want_no rfl) (some 110) rfl (.int .i64 (j : Int)) (fun _ => by kernel_rfl) ?_
        refine pl_val (want_no rfl) (some 111) rfl (.int .u64 (ua (ua ((dh key s) j) (cv .u64 (bt key (16 + j)))) (cy 8 (dsg key (dh key s)) j))) (fun _ => by kernel_rfl) ?_
        refine pl_val (want_no rfl) (some 112) rfl (.int .u8 (cv .u8 (ua (ua ((dh key s) j) (cv .u64 (bt key (16 + j)))) (cy 8 (dsg key (dh key s)) j)))) (fun _ => by kernel_rfl) ?_
        refine pl_val (want_no rfl) (some 113) rfl (.pointer (some ⟨g3, j, none⟩)) (run_ix0 32 5 Tryd.underlying32 inz5 _ _ rfl g3 16 16 (by kernel_rfl) .i64 j (by kernel_rfl) hj) ?_
        refine pl_put1 M (want_no rfl) rfl 5 _ _ rfl 2 g3 j (by kernel_rfl) 16 5 (w8 (dbs (dsg key (dh key s)) j)) rfl (.int .u8 (cv .u8 (ua (ua ((dh key s) j) (cv .u64 (bt key (16 + j)))) (cy 8 (dsg key (dh key s)) j)))) (w8 (upd (dbs (dsg key (dh key s)) j) j (cv .u8 (ua (ua ((dh key s) j) (cv .u64 (bt key (16 + j)))) (cy 8 (dsg key (dh key s)) j))))) (by kernel_rfl) inz5 (by omega) rfl rfl (fun j _ => put_w8 _ _ _ j) ?_
        intro u20 M
        replace M : Mem ⟨w, []⟩ [⟨g1, .cells (av 18 (w64 (drF key))) 84⟩, ⟨g2, .cells (av 18 (w64 (dh key s))) 84⟩, ⟨g3, .cells (av 16 (w8 (upd (dbs (dsg key (dh key s)) j) j (cv .u8 (ua (ua ((dh key s) j) (cv .u64 (bt key (16 + j)))) (cy 8 (dsg key (dh key s)) j)))))) 5⟩] u20 := M
        refine pl_nil ?_
        refine au_then ?_
        refine rg_lit ?_
        refine pl_val (want_no rfl) (some 114) rfl (.int .u64 (ua (ua ((dh key s) j) (cv .u64 (bt key (16 + j)))) (cy 8 (dsg key (dh key s)) j))) (fun _ => by kernel_rfl) ?_
        refine pl_val (want_no rfl) (some 115) rfl (.int .u64 (sr (ua (ua ((dh key s) j) (cv .u64 (bt key (16 + j)))) (cy 8 (dsg key (dh key s)) j)) 8)) (fun _ => by kernel_rfl) ?_
        refine pl_val (want_no rfl) (some 14) rfl (.int .u64 (sr (ua (ua ((dh key s) j) (cv .u64 (bt key (16 + j)))) (cy 8 (dsg key (dh key s)) j)) 8)) (fun _ => by kernel_rfl) ?_
        refine pl_nil ?_
        refine au_block ?_
        refine au_then ?_
        refine rg_lit ?_
        refine pl_val (want_no rfl) (some 96) rfl (.int .i64 (j : Int)) (fun _ => by kernel_rfl) ?_
        refine pl_val (want_no rfl) (some 97) rfl (.int .i64 ((j + 1 : Nat) : Int)) (fun w => Eq.trans (b := .ok (.value (.int .i64 (IntKind.wrap .i64 ((j : Int) + 1)))) w) (by kernel_rfl) (by rw [wrap64 (by omega) (by omega)]; congr 3)) ?_
        refine pl_val (want_no rfl) (some 16) rfl (.int .i64 ((j + 1 : Nat) : Int)) (fun _ => by kernel_rfl) ?_
        refine pl_nil ?_
        refine au_then ?_
        exact ⟨fun k_ => ([.int .u64 (ua (ua ((dh key s) j) (cv .u64 (bt key (16 + j)))) (cy 8 (dsg key (dh key s)) j)), undef, undef, undef, undef, undef, undef, undef, undef, undef, undef, undef, undef, undef, undef, undef, undef, undef, undef, undef, undef, undef, undef, undef, undef, undef, undef, undef, undef, undef, undef, undef, undef, undef, undef, undef, undef, undef, undef, undef, undef, undef, undef, undef, undef, undef, undef, undef, undef, undef, undef, undef, undef, undef, undef, undef, undef, undef, undef, undef, undef, undef, undef, undef, undef, undef, undef, undef, undef, undef, undef, undef, undef, undef, undef, undef, undef, .int .i64 (j : Int), .bool true, .int .i64 (j : Int), .int .i64 ((j + 1 : Nat) : Int), .int .i64 (j : Int), .pointer (some ⟨g2, j, none⟩), .int .u64 ((dh key s) j), .string key, .int .i64 (j : Int), .int .i64 ((16 + j : Nat) : Int), .int .u8 (bt key (16 + j)), .int .u64 (cv .u64 (bt key (16 + j))), .int .u64 (ua ((dh key s) j) (cv .u64 (bt key (16 + j)))), .int .u64 (cy 8 (dsg key (dh key s)) j), .int .u64 (ua (ua ((dh key s) j) (cv .u64 (bt key (16 + j)))) (cy 8 (dsg key (dh key s)) j)), .slice (some ⟨g3, 0, none⟩) 16 16, .int .i64 (j : Int), .int .u64 (ua (ua ((dh key s) j) (cv .u64 (bt key (16 + j)))) (cy 8 (dsg key (dh key s)) j)), .int .u8 (cv .u8 (ua (ua ((dh key s) j) (cv .u64 (bt key (16 + j)))) (cy 8 (dsg key (dh key s)) j))), .pointer (some ⟨g3, j, none⟩), .int .u64 (ua (ua ((dh key s) j) (cv .u64 (bt key (16 + j)))) (cy 8 (dsg key (dh key s)) j)), .int .u64 (sr (ua (ua ((dh key s) j) (cv .u64 (bt key (16 + j)))) (cy 8 (dsg key (dh key s)) j)) 8)] : List Value).getD (k_ - 17) undef, by kernel_rfl, M⟩
      · intro a u0 hI
        obtain ⟨v4, rfl, M⟩ := hI
        refine wp_seq ?_
        refine wp_seq ?_
        refine rg_lit ?_
        refine pl_val (want_no rfl) (some 94) rfl (.int .i64 (16 : Int)) (fun _ => by kernel_rfl) ?_
        refine pl_val (want_no rfl) (some 95) rfl (.bool false) (fun w => Eq.trans (b := .ok (.value (.bool (decide (16 < 16)))) w) (by kernel_rfl) (by rw [decide_eq_false (by omega)])) ?_
        refine pl_nil ?_
        refine au_then ?_
        refine wp_cond_false (by kernel_rfl) ?_
        refine wp_exit ?_
        refine au_then_exit ?_
        refine au_then_exit ?_
        refine au_block_exit ?_
        refine au_then ?_
        refine wp_seq ?_
        refine rg_lit ?_
        refine pl_val (want_no rfl) (some 116) rfl (.slice (some ⟨g3, 0, none⟩) 16 16) (fun _ => by kernel_rfl) ?_
        refine pl_back M (want_no rfl) (some 117) rfl _ rfl 2 g3 16 16 (by kernel_rfl) _ rfl ((List.range 16).map (dbs (dsg key (dh key s)) 16)) 16 (sb_av 16 _ _) (by simp) (by rw [dbs_map]; exact dby_nn _) ?_
        rw [dbs_map]
        refine pl_val (want_no rfl) (some 4) rfl (.string (dtS key s)) (fun _ => by kernel_rfl) ?_
        refine pl_val (want_no rfl) (some 5) rfl (.int .i64 0) (fun _ => by kernel_rfl) ?_
        refine pl_nil ?_
        refine au_then ?_
        refine wp_ret ?_
        exact bodyPost_ret (v := .tuple #[.string (dtS key s), .int .i64 0]) (results_tmp2 Tryd.results30 _ _ _ _ (by kernel_rfl) (by kernel_rfl)) (by kernel_rfl) ⟨rfl, below_grown M.old⟩

set_option maxRecDepth 100000 in
set_option maxHeartbeats 4000000 in
theorem d_TagB (key s : ByteArray) (hk : key.size ≠ 32) (w : World) (hL : Laid w)  :
    Calls Tryd.prog 30 #[.string key, .string s] w fun r w' => r = .returned (.tuple #[.string ⟨#[]⟩, .int .i64 2]) ∧ Below w.heap.size w w' := by
  go_enter Tryd.func30, Tryd.ntmps30
  have M := Mem.start hL
  refine wp_seq ?_
  refine rg_lit ?_
  refine pl_val (want_no rfl) (some 4) rfl (.string ⟨#[]⟩) (fun _ => by kernel_rfl) ?_
  refine pl_val (want_no rfl) (some 5) rfl (.int .i64 0) (fun _ => by kernel_rfl) ?_
  refine pl_nil ?_
  refine au_then ?_
  refine wp_seq ?_
  refine wp_seq ?_
  refine rg_lit ?_
  refine pl_val (want_no rfl) (some 18) rfl (.string key) (fun _ => by kernel_rfl) ?_
  refine pl_val (want_no rfl) (some 19) rfl (.int .i64 (key.size : Int)) (fun _ => by kernel_rfl) ?_
  refine pl_val (want_no rfl) (some 20) rfl (.bool true) (fun w => Eq.trans (b := .ok (.value (.bool (!(decide ((key.size : Int) = 32))))) w) (by kernel_rfl) (by rw [decide_eq_false (by omega)]; rfl)) ?_
  refine pl_nil ?_
  refine au_then ?_
  refine wp_cond_true (by kernel_rfl) ?_
  refine wp_seq ?_
  refine rg_lit ?_
  refine pl_val (want_no rfl) (some 4) rfl (.string ⟨#[]⟩) (fun _ => by kernel_rfl) ?_
  refine pl_val (want_no rfl) (some 5) rfl (.int .i64 2) (fun _ => by kernel_rfl) ?_
  refine pl_nil ?_
  refine au_then ?_
  refine wp_ret ?_
  refine au_then_ret ?_
  exact bodyPost_ret (v := .tuple #[.string ⟨#[]⟩, .int .i64 2]) (results_tmp2 Tryd.results30 _ _ _ _ (by kernel_rfl) (by kernel_rfl)) (by kernel_rfl) ⟨rfl, below_grown M.old⟩


end Go.Proofs.YtkndaajbedlajaaDoor.Pol
