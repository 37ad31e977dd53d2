/- The document: May, Sum and Of. -/
import Derived.Test.YtpfneekmbednoaaDoorB7
namespace Go.Proofs.YtpfneekmbednoaaDoor
open Go.RowKit

theorem hd0_eq (z kl : Nat) : upd HB 0 (vx (vx (vx (HB 0) 16842752) (vl (cv .u32 (kl : Int)) 8)) (cv .u32 (z : Int))) = (hs0 z kl).ws := by
  unfold hs0
  simp only [vx_assoc]
theorem bs_zero (n : Nat) : bs (List.replicate n 0) = zs n := by
  unfold bs zs
  rw [List.map_replicate]
  rfl
/-- The words behind the first pieces. -/
def pcs (A : ByteArray) (x : Nat → Int) : Nat → (Nat → Int)
  | 0 => x
  | j + 1 => mixW (pcs A x j) (wd (bt (A.extract (64 * j) (64 * j + 64))) 64) (cv .u64 ((64 * j + 64 : Nat) : Int)) false
def nbl (A : ByteArray) : Nat := (A.size - 1) / 64
def rst (A : ByteArray) : ByteArray := A.extract (64 * nbl A) A.size
def dfin (A : ByteArray) (x : Nat → Int) : Nat → Int := mixW (pcs A x (nbl A)) (wd (bt (rst A ++ zs (64 - (rst A).size))) 64) (cv .u64 (A.size : Int)) true
def outL (h : Nat → Int) : Nat → List Int
  | 0 => []
  | j + 1 => outL h j ++ [cv .u8 (sr (h (j / 4)) (8 * (j % 4)))]
theorem outL_length (h : Nat → Int) : ∀ j, (outL h j).length = j
  | 0 => rfl
  | j + 1 => by
    unfold outL
    rw [List.length_append, outL_length h j]
    rfl
theorem outL_nn (h : Nat → Int) : ∀ j, ∀ x ∈ outL h j, 0 ≤ x ∧ x < 256
  | 0, x, hx => by simp [outL] at hx
  | j + 1, x, hx => by
    unfold outL at hx
    rcases List.mem_append.1 hx with hx | hx
    · exact outL_nn h j x hx
    · rw [List.mem_singleton.1 hx]
      exact cv8_nn _
def docV (z : Nat) (A : ByteArray) (x : Nat → Int) : ByteArray := bs (outL (dfin A x) z)
theorem vs8_app (l : List Int) (x : Int) : vs8 l ++ [.int .u8 x] = vs8 (l ++ [x]) := by simp [vs8]
theorem run_shrV {P : Program} {a : Act} {o : Oper} (t rt : TypeId) (x y : Operand) (ho : o.op = .binOp .shr t x y rt) (k : Int) (ky : IntKind) (m : Nat) (hx : a.eval x = .int .u32 k) (hy : a.eval y = .int ky (m : Int)) (_hm : m ≤ 32) (w : World) :
    (execOp a.eval o).run P w = .ok (.value (.int .u32 (sr k m))) w := by
  have hp : (0 : Int) ≤ 2 ^ m := Int.le_of_lt (Int.pow_pos (by decide))
  unfold execOp sr
  rw [Int.fdiv_eq_ediv_of_nonneg k hp]
  simp [ho, hx, hy, eqGuard, binOp]
theorem run_strlh {P : Program} {a : Act} {o : Oper} (t : TypeId) (hu : P.underlying t = some .string) (x lo hi : Operand) (ho : o.op = .slice t x (some lo) (some hi) none) (s : ByteArray) (hx : a.eval x = .string s) (k k' : IntKind) (i j : Nat) (hl : a.eval lo = .int k (i : Int)) (hh : a.eval hi = .int k' (j : Int)) (hij : i ≤ j) (hle : j ≤ s.size) (w : World) :
    (execOp a.eval o).run P w = .ok (.value (.string (s.extract i j))) w := by
  unfold execOp
  simp [ho, hx, hl, hh, run_sliceAt_string w t (.string s) (some (.int k i)) (some (.int k' j)) none hu, run_slice_string w t s k k' i j hu (by omega) (by omega) (by omega)]

set_option maxRecDepth 100000 in
set_option maxHeartbeats 4000000 in
theorem d_sum0 (z : Nat) (h1 : 1 ≤ z) (h2 : z ≤ 32) (key s : ByteArray) (hs : s.size < 100000) (hz : key.size = 0) (w : World) (hL : Laid w)  :
    Calls Tryd.prog 21 #[.int .i64 (z : Int), .string key, .string s] w fun r w' => r = .returned (.string (docV z s (hs0 z key.size).ws)) ∧ Below w.heap.size w w' := by
  go_enter Tryd.func21, Tryd.ntmps21
  have M := Mem.start hL
  refine wp_seq ?_
  refine rg_lit ?_
  refine pl_val (want_no rfl) (some 6) rfl (.string ⟨#[]⟩) (fun _ => by kernel_rfl) ?_
  refine pl_nil ?_
  refine au_then ?_
  refine wp_seq ?_
  refine rg_lit ?_
  refine pl_call M (want_no rfl) (some 13) rfl 26 #[] (.agg (av 8 (w32 HB))) (fun _ => by kernel_rfl) (fun w M => d_begin w M.laid) ?_
  intro u1 M
  refine pl_new M (want_no rfl) (some 7) rfl (.cells (av 8 (w32 (fun _ => 0))) 57) (fun _ => by kernel_rfl) ?_
  intro g1 u2 M
  replace M : Mem ⟨w, []⟩ [⟨g1, .cells (av 8 (w32 (fun _ => 0))) 57⟩] u2 := M
  refine pl_put M (want_no rfl) rfl 57 _ _ rfl 0 g1 0 (by kernel_rfl) 8 57 (w32 (fun _ => 0)) rfl 8 (w32 HB) (w32 HB) (by kernel_rfl) inz57 (by decide) (fun _ _ => rfl) (fun j hj => by rw [if_pos (by omega), Nat.sub_zero]) ?_
  intro u3 M
  replace M : Mem ⟨w, []⟩ [⟨g1, .cells (av 8 (w32 HB)) 57⟩] u3 := M
  refine pl_nil ?_
  refine au_then ?_
  refine wp_seq ?_
  refine rg_lit ?_
  refine pl_val (want_no rfl) (some 14) rfl (.pointer (some ⟨g1, 0, none⟩)) (fun _ => by kernel_rfl) ?_
  refine pl_cell M (want_no rfl) (some 15) rfl 56 _ rfl g1 0 (by kernel_rfl) (.int .u32 (HB 0)) (fun _ => by kernel_rfl) (fun w M => M.cell 0 rfl (by decide) rfl) ?_
  refine pl_val (want_no rfl) (some 16) rfl (.int .u32 (vx (HB 0) 16842752)) (fun _ => by kernel_rfl) ?_
  refine pl_val (want_no rfl) (some 17) rfl (.string key) (fun _ => by kernel_rfl) ?_
  refine pl_val (want_no rfl) (some 18) rfl (.int .i64 (key.size : Int)) (fun _ => by kernel_rfl) ?_
  refine pl_val (want_no rfl) (some 19) rfl (.int .u32 (cv .u32 (key.size : Int))) (fun _ => by kernel_rfl) ?_
  refine pl_val (want_no rfl) (some 20) rfl (.int .u32 (vl (cv .u32 (key.size : Int)) 8)) (fun _ => by kernel_rfl) ?_
  refine pl_val (want_no rfl) (some 21) rfl (.int .u32 (vx (vx (HB 0) 16842752) (vl (cv .u32 (key.size : Int)) 8))) (fun _ => by kernel_rfl) ?_
  refine pl_val (want_no rfl) (some 22) rfl (.int .i64 (z : Int)) (fun _ => by kernel_rfl) ?_
  refine pl_val (want_no rfl) (some 23) rfl (.int .u32 (cv .u32 (z : Int))) (fun _ => by kernel_rfl) ?_
  refine pl_val (want_no rfl) (some 24) rfl (.int .u32 (vx (vx (vx (HB 0) 16842752) (vl (cv .u32 (key.size : Int)) 8)) (cv .u32 (z : Int)))) (fun _ => by kernel_rfl) ?_
  refine pl_val (want_no rfl) (some 25) rfl (.pointer (some ⟨g1, 0, none⟩)) (fun _ => by kernel_rfl) ?_
  refine pl_put1 M (want_no rfl) rfl 56 _ _ rfl 0 g1 0 (by kernel_rfl) 8 57 (w32 HB) rfl (.int .u32 (vx (vx (vx (HB 0) 16842752) (vl (cv .u32 (key.size : Int)) 8)) (cv .u32 (z : Int)))) (w32 (upd HB 0 (vx (vx (vx (HB 0) 16842752) (vl (cv .u32 (key.size : Int)) 8)) (cv .u32 (z : Int))))) (by kernel_rfl) inz56 (by decide) rfl rfl (fun j _ => put_w32 _ _ _ j) ?_
  intro u4 M
  replace M : Mem ⟨w, []⟩ [⟨g1, .cells (av 8 (w32 (upd HB 0 (vx (vx (vx (HB 0) 16842752) (vl (cv .u32 (key.size : Int)) 8)) (cv .u32 (z : Int)))))) 57⟩] u4 := M
  refine pl_nil ?_
  rw [hd0_eq] at M
  replace M : Mem ⟨w, []⟩ [⟨g1, .cells (av 8 (w32 (hs0 z key.size).ws)) 57⟩] u4 := M
  refine au_then ?_
  refine wp_seq ?_
  refine rg_lit ?_
  refine pl_val (want_no rfl) (some 26) rfl (.string s) (fun _ => by kernel_rfl) ?_
  refine pl_val (want_no rfl) (some 8) rfl (.string s) (fun _ => by kernel_rfl) ?_
  refine pl_nil ?_
  refine au_then ?_
  refine wp_seq ?_
  refine wp_seq ?_
  refine rg_lit ?_
  refine pl_val (want_no rfl) (some 27) rfl (.string key) (fun _ => by kernel_rfl) ?_
  refine pl_val (want_no rfl) (some 28) rfl (.bool false) (fun w => Eq.trans (b := .ok (.value (.bool (!(key.toList == (⟨#[]⟩ : ByteArray).toList)))) w) (by kernel_rfl) (by rw [key_e key hz, beq_self_eq_true]; rfl)) ?_
  refine pl_nil ?_
  refine au_then ?_
  refine wp_cond_false (by kernel_rfl) ?_
  refine wp_skip ?_
  refine au_then ?_
  refine wp_seq ?_
  refine rg_lit ?_
  refine pl_val (want_no rfl) (some 9) rfl (.int .i64 0) (fun _ => by kernel_rfl) ?_
  refine pl_nil ?_
  refine au_then ?_
  refine wp_seq ?_
  refine wp_block ?_
  obtain ⟨NB, hNB⟩ : ∃ NB, NB = nbl s := ⟨_, rfl⟩
  have hNB2 : NB = (s.size - 1) / 64 := hNB
  refine au_loop (fun j a w' => ∃ v1 : Nat → Value, a = ⟨#[.int .i64 (z : Int), .string key, .string s, undef, undef, undef, .string ⟨#[]⟩, .pointer (some ⟨g1, 0, none⟩), .string s, .int .i64 ((64 * j : Nat) : Int), undef, undef, undef, .agg (av 8 (w32 HB)), .pointer (some ⟨g1, 0, none⟩), .int .u32 (HB 0), .int .u32 (vx (HB 0) 16842752), .string key, .int .i64 (key.size : Int), .int .u32 (cv .u32 (key.size : Int)), .int .u32 (vl (cv .u32 (key.size : Int)) 8), .int .u32 (vx (vx (HB 0) 16842752) (vl (cv .u32 (key.size : Int)) 8)), .int .i64 (z : Int), .int .u32 (cv .u32 (z : Int)), .int .u32 (vx (vx (vx (HB 0) 16842752) (vl (cv .u32 (key.size : Int)) 8)) (cv .u32 (z : Int))), .pointer (some ⟨g1, 0, none⟩), .string s, .string key, .bool false, undef, undef, undef, undef, undef, undef, undef, undef, undef, v1 38, v1 39, v1 40, v1 41, v1 42, v1 43, v1 44, v1 45, v1 46, v1 47, v1 48, v1 49, v1 50, v1 51, v1 52, v1 53, v1 54, undef, undef, undef, undef, undef, undef, undef, undef, undef, undef, undef, undef, undef, undef, undef, undef, undef, undef, undef, undef, undef, undef, undef, undef, undef, undef, undef, undef, undef, undef, undef, undef, undef, undef, undef], []⟩ ∧ Mem ⟨w, []⟩ [⟨g1, .cells (av 8 (w32 (pcs s (hs0 z key.size).ws j))) 57⟩] w') NB ⟨fun k_ => ([undef, undef, undef, undef, undef, undef, undef, undef, undef, undef, undef, undef, undef, undef, undef, undef, undef] : List Value).getD (k_ - 38) undef, by kernel_rfl, M⟩ ?_ ?_
  · intro j a u0 hj hI
    obtain ⟨v1, rfl, M⟩ := hI
    refine wp_seq ?_
    refine wp_seq ?_
    refine rg_lit ?_
    refine pl_val (want_no rfl) (some 38) rfl (.string s) (fun _ => by kernel_rfl) ?_
    refine pl_val (want_no rfl) (some 39) rfl (.int .i64 (s.size : Int)) (fun _ => by kernel_rfl) ?_
    refine pl_val (want_no rfl) (some 40) rfl (.int .i64 ((64 * j : Nat) : Int)) (fun _ => by kernel_rfl) ?_
    refine pl_val (want_no rfl) (some 41) rfl (.int .i64 ((s.size - 64 * j : Nat) : Int)) (fun w => Eq.trans (b := .ok (.value (.int .i64 (IntKind.wrap .i64 ((s.size : Int) - ((64 * j : Nat) : Int))))) w) (by kernel_rfl) (by rw [wrap64 (by omega) (by omega)]; congr 3 <;> omega)) ?_
    refine pl_val (want_no rfl) (some 42) rfl (.bool true) (fun w => Eq.trans (b := .ok (.value (.bool (decide ((64 : Int) < ((s.size - 64 * j : Nat) : Int))))) w) (by kernel_rfl) (by rw [decide_eq_true (by omega)])) ?_
    refine pl_nil ?_
    refine au_then ?_
    refine wp_cond_true (by kernel_rfl) ?_
    refine wp_skip ?_
    refine au_then ?_
    refine wp_block ?_
    refine wp_seq ?_
    refine rg_tail M 10 (by kernel_rfl) (by kernel_rfl) ?_
    simp only [List.take_succ_cons, List.take_zero]
    refine k_load M (want_no rfl) (some 43) rfl 57 _ rfl 0 g1 0 (by kernel_rfl) 8 57 (w32 (pcs s (hs0 z key.size).ws j)) rfl 8 (w32 (pcs s (hs0 z key.size).ws j)) (fun j _ => by rw [Nat.zero_add]) (by decide) _ Tryd.underlying57 rfl inz57 ?_
    refine k_val (want_no rfl) (some 44) rfl (.string s) (fun _ => by kernel_rfl) ?_
    refine k_val (want_no rfl) (some 45) rfl (.int .i64 ((64 * j : Nat) : Int)) (fun _ => by kernel_rfl) ?_
    refine k_val (want_no rfl) (some 46) rfl (.int .i64 ((64 * j : Nat) : Int)) (fun _ => by kernel_rfl) ?_
    refine k_val (want_no rfl) (some 47) rfl (.int .i64 ((64 * j + 64 : Nat) : Int)) (fun w => Eq.trans (b := .ok (.value (.int .i64 (IntKind.wrap .i64 (((64 * j : Nat) : Int) + 64)))) w) (by kernel_rfl) (by rw [wrap64 (by omega) (by omega)]; congr 3 <;> omega)) ?_
    refine k_val (want_no rfl) (some 48) rfl (.string (s.extract (64 * j) (64 * j + 64))) (run_strlh 9 Tryd.underlying9 _ _ _ rfl s (by kernel_rfl) .i64 .i64 (64 * j) (64 * j + 64) (by kernel_rfl) (by kernel_rfl) (by omega) (by omega)) ?_
    refine k_val (want_no rfl) (some 49) rfl (.int .i64 ((64 * j : Nat) : Int)) (fun _ => by kernel_rfl) ?_
    refine k_val (want_no rfl) (some 50) rfl (.int .i64 ((64 * j + 64 : Nat) : Int)) (fun w => Eq.trans (b := .ok (.value (.int .i64 (IntKind.wrap .i64 (((64 * j : Nat) : Int) + 64)))) w) (by kernel_rfl) (by rw [wrap64 (by omega) (by omega)]; congr 3 <;> omega)) ?_
    refine k_val (want_no rfl) (some 51) rfl (.int .u64 (cv .u64 ((64 * j + 64 : Nat) : Int))) (fun _ => by kernel_rfl) ?_
    refine k_call M (want_no rfl) (some 52) rfl 27 #[.agg (av 8 (w32 (pcs s (hs0 z key.size).ws j))), .string (s.extract (64 * j) (64 * j + 64)), .int .u64 (cv .u64 ((64 * j + 64 : Nat) : Int)), .bool false] (.agg (av 8 (w32 (pcs s (hs0 z key.size).ws (j + 1))))) (fun _ => by kernel_rfl) (fun w M => d_piece (pcs s (hs0 z key.size).ws j) _ (by rw [ByteArray.size_extract]; omega) _ _ w M.laid) ?_
    refine kl_nil ?_
    intro u5 M
    replace M : Mem ⟨w, []⟩ [⟨g1, .cells (av 8 (w32 (pcs s (hs0 z key.size).ws j))) 57⟩] u5 := M
    refine pl_put M (want_no rfl) rfl 57 _ _ rfl 0 g1 0 (by kernel_rfl) 8 57 (w32 (pcs s (hs0 z key.size).ws j)) rfl 8 (w32 (pcs s (hs0 z key.size).ws (j + 1))) (w32 (pcs s (hs0 z key.size).ws (j + 1))) (by kernel_rfl) inz57 (by decide) (fun _ _ => rfl) (fun j hj => by rw [if_pos (by omega), Nat.sub_zero]) ?_
    intro u6 M
    replace M : Mem ⟨w, []⟩ [⟨g1, .cells (av 8 (w32 (pcs s (hs0 z key.size).ws (j + 1)))) 57⟩] u6 := M
    refine pl_nil ?_
    refine au_then ?_
    refine rg_lit ?_
    refine pl_val (want_no rfl) (some 53) rfl (.int .i64 ((64 * j : Nat) : Int)) (fun _ => by kernel_rfl) ?_
    refine pl_val (want_no rfl) (some 54) rfl (.int .i64 ((64 * (j + 1) : Nat) : Int)) (fun w => Eq.trans (b := .ok (.value (.int .i64 (IntKind.wrap .i64 (((64 * j : Nat) : Int) + 64)))) w) (by kernel_rfl) (by rw [wrap64 (by omega) (by omega)]; congr 3 <;> omega)) ?_
    refine pl_val (want_no rfl) (some 9) rfl (.int .i64 ((64 * (j + 1) : Nat) : Int)) (fun _ => by kernel_rfl) ?_
    refine pl_nil ?_
    refine au_block ?_
    refine au_then ?_
    exact ⟨fun k_ => ([.string s, .int .i64 (s.size : Int), .int .i64 ((64 * j : Nat) : Int), .int .i64 ((s.size - 64 * j : Nat) : Int), .bool true, .agg (av 8 (w32 (pcs s (hs0 z key.size).ws j))), .string s, .int .i64 ((64 * j : Nat) : Int), .int .i64 ((64 * j : Nat) : Int), .int .i64 ((64 * j + 64 : Nat) : Int), .string (s.extract (64 * j) (64 * j + 64)), .int .i64 ((64 * j : Nat) : Int), .int .i64 ((64 * j + 64 : Nat) : Int), .int .u64 (cv .u64 ((64 * j + 64 : Nat) : Int)), .agg (av 8 (w32 (pcs s (hs0 z key.size).ws (j + 1)))), .int .i64 ((64 * j : Nat) : Int), .int .i64 ((64 * (j + 1) : Nat) : Int)] : List Value).getD (k_ - 38) undef, by kernel_rfl, M⟩
  · intro a u0 hI
    obtain ⟨v1, rfl, M⟩ := hI
    have hr1 : s.extract (64 * NB) s.size = rst s := by unfold rst; rw [hNB]
    have hr2 : (rst s).size = s.size - 64 * NB := by rw [← hr1, size_extract]
    have hdf : mixW (pcs s (hs0 z key.size).ws NB) (wd (bt (rst s ++ zs (64 - (rst s).size))) 64) (cv .u64 (s.size : Int)) true = dfin s (hs0 z key.size).ws := by unfold dfin; rw [hNB]
    refine wp_seq ?_
    refine wp_seq ?_
    refine rg_lit ?_
    refine pl_val (want_no rfl) (some 38) rfl (.string s) (fun _ => by kernel_rfl) ?_
    refine pl_val (want_no rfl) (some 39) rfl (.int .i64 (s.size : Int)) (fun _ => by kernel_rfl) ?_
    refine pl_val (want_no rfl) (some 40) rfl (.int .i64 ((64 * NB : Nat) : Int)) (fun _ => by kernel_rfl) ?_
    refine pl_val (want_no rfl) (some 41) rfl (.int .i64 ((s.size - 64 * NB : Nat) : Int)) (fun w => Eq.trans (b := .ok (.value (.int .i64 (IntKind.wrap .i64 ((s.size : Int) - ((64 * NB : Nat) : Int))))) w) (by kernel_rfl) (by rw [wrap64 (by omega) (by omega)]; congr 3 <;> omega)) ?_
    refine pl_val (want_no rfl) (some 42) rfl (.bool false) (fun w => Eq.trans (b := .ok (.value (.bool (decide ((64 : Int) < ((s.size - 64 * NB : Nat) : Int))))) w) (by kernel_rfl) (by rw [decide_eq_false (by omega)])) ?_
    refine pl_nil ?_
    refine au_then ?_
    refine wp_cond_false (by kernel_rfl) ?_
    refine wp_exit ?_
    refine au_then_exit ?_
    refine au_then_exit ?_
    refine au_block_exit ?_
    refine au_then ?_
    refine wp_seq ?_
    refine rg_lit ?_
    refine pl_val (want_no rfl) (some 55) rfl (.string s) (fun _ => by kernel_rfl) ?_
    refine pl_val (want_no rfl) (some 56) rfl (.int .i64 ((64 * NB : Nat) : Int)) (fun _ => by kernel_rfl) ?_
    refine pl_val (want_no rfl) (some 57) rfl (.string (rst s)) (run_strl 9 Tryd.underlying9 _ _ rfl s (by kernel_rfl) .i64 (64 * NB) (by kernel_rfl) (by omega) _ hr1) ?_
    refine pl_val (want_no rfl) (some 10) rfl (.string (rst s)) (fun _ => by kernel_rfl) ?_
    refine pl_nil ?_
    refine au_then ?_
    refine wp_seq ?_
    refine rg_held M [⟨g1, .cells (av 8 (w32 (pcs s (hs0 z key.size).ws NB))) 57⟩] 12 rfl (by kernel_rfl) (by kernel_rfl) (fun _ _ d _ _ h => by cases d <;> exact h) ?_
    intro u7 M
    replace M : Mem ⟨w, []⟩ [⟨g1, .cells (av 8 (w32 (pcs s (hs0 z key.size).ws NB))) 57⟩] u7 := M
    refine hl_load M 0 rfl (by decide) (by kernel_rfl) (by kernel_rfl) (want_no rfl) (some 58) rfl 57 _ rfl 0 g1 0 (by kernel_rfl) 8 57 (w32 (pcs s (hs0 z key.size).ws NB)) rfl 8 (w32 (pcs s (hs0 z key.size).ws NB)) (fun j _ => by rw [Nat.zero_add]) (by decide) _ Tryd.underlying57 rfl inz57 ?_
    refine hl_val M 1 rfl (by decide) (by kernel_rfl) (by kernel_rfl) (want_no rfl) (some 59) rfl (.string (rst s)) (fun _ _ => by kernel_rfl) ?_
    refine hl_val M 2 rfl (by decide) (by kernel_rfl) (by kernel_rfl) (want_no rfl) (some 60) rfl (.string (rst s)) (fun _ _ => by kernel_rfl) ?_
    refine hl_val M 3 rfl (by decide) (by kernel_rfl) (by kernel_rfl) (want_no rfl) (some 61) rfl (.int .i64 ((rst s).size : Int)) (fun _ _ => by kernel_rfl) ?_
    refine hl_val M 4 rfl (by decide) (by kernel_rfl) (by kernel_rfl) (want_no rfl) (some 62) rfl (.int .i64 ((64 - (rst s).size : Nat) : Int)) (fun w _ => (fun w => Eq.trans (b := .ok (.value (.int .i64 (IntKind.wrap .i64 (64 - ((rst s).size : Int))))) w) (by kernel_rfl) (by rw [wrap64 (by omega) (by omega)]; congr 3 <;> omega)) w) ?_
    refine hl_val M 8 rfl (by decide) (by kernel_rfl) (by kernel_rfl) (want_no rfl) (some 66) rfl (.string s) (fun _ _ => by kernel_rfl) ?_
    refine hl_val M 9 rfl (by decide) (by kernel_rfl) (by kernel_rfl) (want_no rfl) (some 67) rfl (.int .i64 (s.size : Int)) (fun _ _ => by kernel_rfl) ?_
    refine hl_val M 10 rfl (by decide) (by kernel_rfl) (by kernel_rfl) (want_no rfl) (some 68) rfl (.int .u64 (cv .u64 (s.size : Int))) (fun _ _ => by kernel_rfl) ?_
    refine hl_one 5 (by decide) (by kernel_rfl) rfl ?_
    refine pl_makeZ M (want_no rfl) (some 63) rfl 42 5 _ Tryd.underlying42 info5_eq info5_z (by kernel_rfl) (by decide +kernel) _ _ rfl .i64 .i64 (64 - (rst s).size) (by kernel_rfl) (by kernel_rfl) (by omega) ?_
    intro g2 Zg2 u8 hZg2 M
    replace M : Mem ⟨w, []⟩ [⟨g1, .cells (av 8 (w32 (pcs s (hs0 z key.size).ws NB))) 57⟩, ⟨g2, Zg2⟩] u8 := M
    refine pl_nil ?_
    refine au_then ?_
    refine ⟨(M.drop (.cons_cons _ (.cons _ (.slnil)))), ?_⟩
    refine hl_one 6 (by decide) (by kernel_rfl) rfl ?_
    refine pl_back M (want_no rfl) (some 64) rfl _ rfl 1 g2 (64 - (rst s).size) (64 - (rst s).size) (by kernel_rfl) Zg2 rfl (List.replicate (64 - (rst s).size) 0) (64 - (rst s).size) hZg2 (List.length_replicate ..) (fun x hx => by rw [(List.mem_replicate.1 hx).2]; decide) ?_
    rw [bs_zero]
    refine pl_nil ?_
    refine au_then ?_
    refine ⟨(M.drop (.cons_cons _ (.cons _ (.slnil)))), ?_⟩
    refine hl_val (M.drop (.cons_cons _ (.cons _ (.slnil)))) 7 rfl (by decide) (by kernel_rfl) (by kernel_rfl) (want_no rfl) (some 65) rfl (.string (rst s ++ zs (64 - (rst s).size))) (fun w _ => (run_cat 9 9 _ _ rfl (rst s) (zs (64 - (rst s).size)) (by kernel_rfl) (by kernel_rfl) (by rw [zs_size]; omega)) w) ?_
    refine hl_one 11 (by decide) (by kernel_rfl) rfl ?_
    refine pl_call M (want_no rfl) (some 69) rfl 27 #[.agg (av 8 (w32 (pcs s (hs0 z key.size).ws NB))), .string (rst s ++ zs (64 - (rst s).size)), .int .u64 (cv .u64 (s.size : Int)), .bool true] (.agg (av 8 (w32 (dfin s (hs0 z key.size).ws)))) (fun _ => by kernel_rfl) (fun w M => (by rw [← hdf]; exact d_piece (pcs s (hs0 z key.size).ws NB) _ (by rw [ByteArray.size_append, zs_size]; omega) _ _ w M.laid)) ?_
    intro u9 M
    refine pl_nil ?_
    refine au_then ?_
    refine ⟨(M.drop (.cons_cons _ (.cons _ (.slnil)))), ?_⟩
    refine hl_end (by kernel_rfl) (by kernel_rfl) rfl ?_
    refine pl_put M (want_no rfl) rfl 57 _ _ rfl 0 g1 0 (by kernel_rfl) 8 57 (w32 (pcs s (hs0 z key.size).ws NB)) rfl 8 (w32 (dfin s (hs0 z key.size).ws)) (w32 (dfin s (hs0 z key.size).ws)) (by kernel_rfl) inz57 (by decide) (fun _ _ => rfl) (fun j hj => by rw [if_pos (by omega), Nat.sub_zero]) ?_
    intro u10 M
    replace M : Mem ⟨w, []⟩ [⟨g1, .cells (av 8 (w32 (dfin s (hs0 z key.size).ws))) 57⟩, ⟨g2, Zg2⟩] u10 := M
    refine pl_nil ?_
    refine au_then ?_
    refine au_then ?_
    refine wp_seq ?_
    refine rg_lit ?_
    refine pl_val (want_no rfl) (some 11) rfl (.slice none 0 0) (fun _ => by kernel_rfl) ?_
    refine pl_nil ?_
    refine au_then ?_
    refine wp_seq ?_
    refine wp_seq ?_
    refine rg_lit ?_
    refine pl_val (want_no rfl) (some 12) rfl (.int .i64 0) (fun _ => by kernel_rfl) ?_
    refine pl_nil ?_
    refine au_then ?_
    refine wp_block ?_
    replace M := M.drop (L' := [⟨g1, .cells (av 8 (w32 (dfin s (hs0 z key.size).ws))) 57⟩]) (.cons_cons _ (.cons _ (.slnil)))
    refine au_loop (fun j a w' => ∃ (v9 : Nat → Value) (sl : Value), a = ⟨#[.int .i64 (z : Int), .string key, .string s, undef, undef, undef, .string ⟨#[]⟩, .pointer (some ⟨g1, 0, none⟩), .string s, .int .i64 ((64 * NB : Nat) : Int), .string (rst s), sl, .int .i64 (j : Int), .agg (av 8 (w32 HB)), .pointer (some ⟨g1, 0, none⟩), .int .u32 (HB 0), .int .u32 (vx (HB 0) 16842752), .string key, .int .i64 (key.size : Int), .int .u32 (cv .u32 (key.size : Int)), .int .u32 (vl (cv .u32 (key.size : Int)) 8), .int .u32 (vx (vx (HB 0) 16842752) (vl (cv .u32 (key.size : Int)) 8)), .int .i64 (z : Int), .int .u32 (cv .u32 (z : Int)), .int .u32 (vx (vx (vx (HB 0) 16842752) (vl (cv .u32 (key.size : Int)) 8)) (cv .u32 (z : Int))), .pointer (some ⟨g1, 0, none⟩), .string s, .string key, .bool false, undef, undef, undef, undef, undef, undef, undef, undef, undef, .string s, .int .i64 (s.size : Int), .int .i64 ((64 * NB : Nat) : Int), .int .i64 ((s.size - 64 * NB : Nat) : Int), .bool false, v1 43, v1 44, v1 45, v1 46, v1 47, v1 48, v1 49, v1 50, v1 51, v1 52, v1 53, v1 54, .string s, .int .i64 ((64 * NB : Nat) : Int), .string (rst s), .agg (av 8 (w32 (pcs s (hs0 z key.size).ws NB))), .string (rst s), .string (rst s), .int .i64 ((rst s).size : Int), .int .i64 ((64 - (rst s).size : Nat) : Int), .slice (some ⟨g2, 0, none⟩) (64 - (rst s).size) (64 - (rst s).size), .string (zs (64 - (rst s).size)), .string (rst s ++ zs (64 - (rst s).size)), .string s, .int .i64 (s.size : Int), .int .u64 (cv .u64 (s.size : Int)), .agg (av 8 (w32 (dfin s (hs0 z key.size).ws))), v9 70, v9 71, v9 72, v9 73, v9 74, v9 75, v9 76, v9 77, v9 78, v9 79, v9 80, v9 81, v9 82, v9 83, v9 84, v9 85, v9 86, v9 87, undef, undef], []⟩ ∧ ((j = 0 ∧ sl = .slice none 0 0 ∧ Mem ⟨w, []⟩ [⟨g1, .cells (av 8 (w32 (dfin s (hs0 z key.size).ws))) 57⟩] w') ∨ (∃ (gq capq : Nat) (Zq : Obj), sl = .slice (some ⟨gq, 0, none⟩) j capq ∧ SB Zq capq (vs8 (outL (dfin s (hs0 z key.size).ws) j)) ∧ Mem ⟨w, []⟩ [⟨g1, .cells (av 8 (w32 (dfin s (hs0 z key.size).ws))) 57⟩, ⟨gq, Zq⟩] w'))) z ⟨fun k_ => ([undef, undef, undef, undef, undef, undef, undef, undef, undef, undef, undef, undef, undef, undef, undef, undef, undef, undef] : List Value).getD (k_ - 70) undef, .slice none 0 0, by kernel_rfl, .inl ⟨rfl, rfl, M⟩⟩ ?_ ?_
    · intro j a u0 hj hI
      obtain ⟨v9, sl, rfl, hI⟩ := hI
      rcases hI with ⟨rfl, rfl, M⟩ | ⟨gq, capq, Zq, rfl, hZq, M⟩
      · skip
        refine wp_seq ?_
        refine wp_seq ?_
        refine rg_lit ?_
        refine pl_val (want_no rfl) (some 70) rfl (.int .i64 0) (fun _ => by kernel_rfl) ?_
        refine pl_val (want_no rfl) (some 71) rfl (.int .i64 (z : Int)) (fun _ => by kernel_rfl) ?_
        refine pl_val (want_no rfl) (some 72) rfl (.bool true) (fun w => Eq.trans (b := .ok (.value (.bool (decide ((0 : Int) < (z : Int))))) w) (by kernel_rfl) (by rw [decide_eq_true (by omega)])) ?_
        refine pl_nil ?_
        refine au_then ?_
        refine wp_cond_true (by kernel_rfl) ?_
        refine wp_skip ?_
        refine au_then ?_
        refine wp_seq ?_
        refine wp_block ?_
        refine rg_lit ?_
        refine pl_val (want_no rfl) (some 75) rfl (.slice none 0 0) (fun _ => by kernel_rfl) ?_
        refine pl_val (want_no rfl) (some 76) rfl (.int .i64 0) (fun _ => by kernel_rfl) ?_
        refine pl_val (want_no rfl) (some 77) rfl (.int .i64 0) (fun _ => by kernel_rfl) ?_
        refine pl_val (want_no rfl) (some 78) rfl (.pointer (some ⟨g1, 0, none⟩)) (fun _ => by kernel_rfl) ?_
        refine pl_cell M (want_no rfl) (some 79) rfl 56 _ rfl g1 0 (by kernel_rfl) (.int .u32 ((dfin s (hs0 z key.size).ws) 0)) (fun _ => by kernel_rfl) (fun w M => M.cell 0 rfl (by decide) rfl) ?_
        refine pl_val (want_no rfl) (some 80) rfl (.int .i64 0) (fun _ => by kernel_rfl) ?_
        refine pl_val (want_no rfl) (some 81) rfl (.int .i64 0) (fun _ => by kernel_rfl) ?_
        refine pl_val (want_no rfl) (some 82) rfl (.int .i64 0) (fun _ => by kernel_rfl) ?_
        refine pl_val (want_no rfl) (some 83) rfl (.int .u64 0) (fun _ => by kernel_rfl) ?_
        refine pl_val (want_no rfl) (some 84) rfl (.int .u32 (sr ((dfin s (hs0 z key.size).ws) 0) 0)) (fun _ => by kernel_rfl) ?_
        refine pl_val (want_no rfl) (some 85) rfl (.int .u8 (cv .u8 (sr ((dfin s (hs0 z key.size).ws) 0) 0))) (fun _ => by kernel_rfl) ?_
        refine pl_mk M (want_no rfl) (some 86) rfl (fun g3 => .slice (some ⟨g3, 0, none⟩) 1 1) (.cells (av 1 (fun _ => .int .u8 (cv .u8 (sr ((dfin s (hs0 z key.size).ws) 0) 0)))) 5) (fun _ => by kernel_rfl) ?_
        intro g3 u11 M
        replace M : Mem ⟨w, []⟩ [⟨g1, .cells (av 8 (w32 (dfin s (hs0 z key.size).ws))) 57⟩, ⟨g3, .cells (av 1 (fun _ => .int .u8 (cv .u8 (sr ((dfin s (hs0 z key.size).ws) 0) 0)))) 5⟩] u11 := M
        refine pl_app0 M (want_no rfl) (some 87) rfl 42 42 5 _ (.int .u8 0) Tryd.underlying42 info5_eq info5_z (by kernel_rfl) (by decide +kernel) rfl 1 g3 5 (.int .u8 (cv .u8 (sr ((dfin s (hs0 z key.size).ws) 0) 0))) rfl (fun _ => by kernel_rfl) ?_
        intro e1 c1 Y1 u12 hY1 M
        replace M : Mem ⟨w, []⟩ [⟨g1, .cells (av 8 (w32 (dfin s (hs0 z key.size).ws))) 57⟩, ⟨g3, .cells (av 1 (fun _ => .int .u8 (cv .u8 (sr ((dfin s (hs0 z key.size).ws) 0) 0)))) 5⟩, ⟨e1, Y1⟩] u12 := M
        refine pl_val (want_no rfl) (some 11) rfl (.slice (some ⟨e1, 0, none⟩) 1 c1) (fun _ => by kernel_rfl) ?_
        refine pl_nil ?_
        refine au_block ?_
        refine au_then ?_
        refine rg_lit ?_
        refine pl_val (want_no rfl) (some 73) rfl (.int .i64 0) (fun _ => by kernel_rfl) ?_
        refine pl_val (want_no rfl) (some 74) rfl (.int .i64 1) (fun _ => by kernel_rfl) ?_
        refine pl_val (want_no rfl) (some 12) rfl (.int .i64 1) (fun _ => by kernel_rfl) ?_
        refine pl_nil ?_
        refine au_then ?_
        exact ⟨fun k_ => ([.int .i64 0, .int .i64 (z : Int), .bool true, .int .i64 0, .int .i64 1, .slice none 0 0, .int .i64 0, .int .i64 0, .pointer (some ⟨g1, 0, none⟩), .int .u32 ((dfin s (hs0 z key.size).ws) 0), .int .i64 0, .int .i64 0, .int .i64 0, .int .u64 0, .int .u32 (sr ((dfin s (hs0 z key.size).ws) 0) 0), .int .u8 (cv .u8 (sr ((dfin s (hs0 z key.size).ws) 0) 0)), .slice (some ⟨g3, 0, none⟩) 1 1, .slice (some ⟨e1, 0, none⟩) 1 c1] : List Value).getD (k_ - 70) undef, _, by kernel_rfl, .inr ⟨e1, c1, Y1, rfl, hY1, M.drop (.cons_cons _ (.cons _ (.cons_cons _ (.slnil))))⟩⟩
      · skip
        refine wp_seq ?_
        refine wp_seq ?_
        refine rg_lit ?_
        refine pl_val (want_no rfl) (some 70) rfl (.int .i64 (j : Int)) (fun _ => by kernel_rfl) ?_
        refine pl_val (want_no rfl) (some 71) rfl (.int .i64 (z : Int)) (fun _ => by kernel_rfl) ?_
        refine pl_val (want_no rfl) (some 72) rfl (.bool true) (fun w => Eq.trans (b := .ok (.value (.bool (decide ((j : Int) < (z : Int))))) w) (by kernel_rfl) (by rw [decide_eq_true (by omega)])) ?_
        refine pl_nil ?_
        refine au_then ?_
        refine wp_cond_true (by kernel_rfl) ?_
        refine wp_skip ?_
        refine au_then ?_
        refine wp_seq ?_
        refine wp_block ?_
        refine rg_lit ?_
        refine pl_val (want_no rfl) (some 75) rfl (.slice (some ⟨gq, 0, none⟩) j capq) (fun _ => by kernel_rfl) ?_
        refine pl_val (want_no rfl) (some 76) rfl (.int .i64 (j : Int)) (fun _ => by kernel_rfl) ?_
        refine pl_val (want_no rfl) (some 77) rfl (.int .i64 ((j / 4 : Nat) : Int)) (fun w => Eq.trans (b := .ok (.value (.int .i64 (IntKind.wrap .i64 ((j : Int).tdiv 4)))) w) (by kernel_rfl) (by rw [quo4 j (by omega)])) ?_
        refine pl_val (want_no rfl) (some 78) rfl (.pointer (some ⟨g1, ((j / 4 : Nat)), none⟩)) (run_ix1 57 8 56 Tryd.underlying57 inz56 _ _ rfl g1 (by kernel_rfl) .i64 ((j / 4 : Nat)) (by kernel_rfl) (by omega)) ?_
        refine pl_cell M (want_no rfl) (some 79) rfl 56 _ rfl g1 ((j / 4 : Nat)) (by kernel_rfl) (.int .u32 ((dfin s (hs0 z key.size).ws) ((j / 4 : Nat)))) (fun _ => by kernel_rfl) (fun w M => M.cell 0 rfl (by omega) rfl) ?_
        refine pl_val (want_no rfl) (some 80) rfl (.int .i64 (j : Int)) (fun _ => by kernel_rfl) ?_
        refine pl_val (want_no rfl) (some 81) rfl (.int .i64 ((j % 4 : Nat) : Int)) (fun w => Eq.trans (b := .ok (.value (.int .i64 (Int.tmod (j : Int) 4))) w) (by kernel_rfl) (by rw [rem4 j])) ?_
        refine pl_val (want_no rfl) (some 82) rfl (.int .i64 ((8 * (j % 4) : Nat) : Int)) (fun w => Eq.trans (b := .ok (.value (.int .i64 (IntKind.wrap .i64 (8 * ((j % 4 : Nat) : Int))))) w) (by kernel_rfl) (by rw [wrap64 (by omega) (by omega)]; congr 3 <;> omega)) ?_
        refine pl_val (want_no rfl) (some 83) rfl (.int .u64 ((8 * (j % 4) : Nat) : Int)) (fun w => Eq.trans (b := .ok (.value (.int .u64 (cv .u64 ((8 * (j % 4) : Nat) : Int)))) w) (by kernel_rfl) (by rw [cv_u64 _ (by omega)])) ?_
        refine pl_val (want_no rfl) (some 84) rfl (.int .u32 (sr ((dfin s (hs0 z key.size).ws) (j / 4)) (8 * (j % 4)))) (run_shrV 56 59 _ _ rfl _ .u64 (8 * (j % 4)) (by kernel_rfl) (by kernel_rfl) (by omega)) ?_
        refine pl_val (want_no rfl) (some 85) rfl (.int .u8 (cv .u8 (sr ((dfin s (hs0 z key.size).ws) (j / 4)) (8 * (j % 4))))) (fun _ => by kernel_rfl) ?_
        refine pl_mk M (want_no rfl) (some 86) rfl (fun g4 => .slice (some ⟨g4, 0, none⟩) 1 1) (.cells (av 1 (fun _ => .int .u8 (cv .u8 (sr ((dfin s (hs0 z key.size).ws) (j / 4)) (8 * (j % 4)))))) 5) (fun _ => by kernel_rfl) ?_
        intro g4 u13 M
        replace M : Mem ⟨w, []⟩ [⟨g1, .cells (av 8 (w32 (dfin s (hs0 z key.size).ws))) 57⟩, ⟨gq, Zq⟩, ⟨g4, .cells (av 1 (fun _ => .int .u8 (cv .u8 (sr ((dfin s (hs0 z key.size).ws) (j / 4)) (8 * (j % 4)))))) 5⟩] u13 := M
        refine pl_app M (want_no rfl) (some 87) rfl 42 42 5 _ (.int .u8 0) Tryd.underlying42 info5_eq info5_z (by kernel_rfl) (by decide +kernel) rfl 1 gq (j) capq Zq (vs8 (outL (dfin s (hs0 z key.size).ws) j)) rfl hZq (by rw [vs8_length, outL_length]) (by omega) 2 g4 5 (.int .u8 (cv .u8 (sr ((dfin s (hs0 z key.size).ws) (j / 4)) (8 * (j % 4))))) rfl rfl (fun _ => by kernel_rfl) ?_
        intro e2 c2 Y2 u14 hY2 M
        rw [vs8_app] at hY2
        replace M : Mem ⟨w, []⟩ [⟨g1, .cells (av 8 (w32 (dfin s (hs0 z key.size).ws))) 57⟩, ⟨g4, .cells (av 1 (fun _ => .int .u8 (cv .u8 (sr ((dfin s (hs0 z key.size).ws) (j / 4)) (8 * (j % 4)))))) 5⟩, ⟨e2, Y2⟩] u14 := M
        refine pl_val (want_no rfl) (some 11) rfl (.slice (some ⟨e2, 0, none⟩) (j + 1) c2) (fun _ => by kernel_rfl) ?_
        refine pl_nil ?_
        refine au_block ?_
        refine au_then ?_
        refine rg_lit ?_
        refine pl_val (want_no rfl) (some 73) rfl (.int .i64 (j : Int)) (fun _ => by kernel_rfl) ?_
        refine pl_val (want_no rfl) (some 74) rfl (.int .i64 ((j + 1 : Nat) : Int)) (fun w => Eq.trans (b := .ok (.value (.int .i64 (IntKind.wrap .i64 ((j : Int) + 1)))) w) (by kernel_rfl) (by rw [wrap64 (by omega) (by omega)]; congr 3)) ?_
        refine pl_val (want_no rfl) (some 12) rfl (.int .i64 ((j + 1 : Nat) : Int)) (fun _ => by kernel_rfl) ?_
        refine pl_nil ?_
        refine au_then ?_
        exact ⟨fun k_ => ([.int .i64 (j : Int), .int .i64 (z : Int), .bool true, .int .i64 (j : Int), .int .i64 ((j + 1 : Nat) : Int), .slice (some ⟨gq, 0, none⟩) j capq, .int .i64 (j : Int), .int .i64 ((j / 4 : Nat) : Int), .pointer (some ⟨g1, ((j / 4 : Nat)), none⟩), .int .u32 ((dfin s (hs0 z key.size).ws) ((j / 4 : Nat))), .int .i64 (j : Int), .int .i64 ((j % 4 : Nat) : Int), .int .i64 ((8 * (j % 4) : Nat) : Int), .int .u64 ((8 * (j % 4) : Nat) : Int), .int .u32 (sr ((dfin s (hs0 z key.size).ws) (j / 4)) (8 * (j % 4))), .int .u8 (cv .u8 (sr ((dfin s (hs0 z key.size).ws) (j / 4)) (8 * (j % 4)))), .slice (some ⟨g4, 0, none⟩) 1 1, .slice (some ⟨e2, 0, none⟩) (j + 1) c2] : List Value).getD (k_ - 70) undef, _, by kernel_rfl, .inr ⟨e2, c2, Y2, rfl, hY2, M.drop (.cons_cons _ (.cons _ (.cons_cons _ (.slnil))))⟩⟩
    · intro a u0 hI
      obtain ⟨v9, sl, rfl, hI⟩ := hI
      rcases hI with ⟨h, _⟩ | ⟨gq, capq, Zq, rfl, hZq, M⟩
      · omega
      · skip
        refine wp_seq ?_
        refine wp_seq ?_
        refine rg_lit ?_
        refine pl_val (want_no rfl) (some 70) rfl (.int .i64 (z : Int)) (fun _ => by kernel_rfl) ?_
        refine pl_val (want_no rfl) (some 71) rfl (.int .i64 (z : Int)) (fun _ => by kernel_rfl) ?_
        refine pl_val (want_no rfl) (some 72) rfl (.bool false) (fun w => Eq.trans (b := .ok (.value (.bool (decide ((z : Int) < (z : Int))))) w) (by kernel_rfl) (by rw [decide_eq_false (by omega)])) ?_
        refine pl_nil ?_
        refine au_then ?_
        refine wp_cond_false (by kernel_rfl) ?_
        refine wp_exit ?_
        refine au_then_exit ?_
        refine au_then_exit ?_
        refine au_block_exit ?_
        refine au_then ?_
        refine wp_seq ?_
        refine rg_lit ?_
        refine pl_val (want_no rfl) (some 88) rfl (.slice (some ⟨gq, 0, none⟩) z capq) (fun _ => by kernel_rfl) ?_
        refine pl_back M (want_no rfl) (some 89) rfl _ rfl 1 gq z capq (by kernel_rfl) Zq rfl (outL (dfin s (hs0 z key.size).ws) z) capq hZq (outL_length _ _) (outL_nn _ _) ?_
        refine pl_val (want_no rfl) (some 6) rfl (.string (docV z s (hs0 z key.size).ws)) (fun _ => by kernel_rfl) ?_
        refine pl_nil ?_
        refine au_then ?_
        refine wp_ret ?_
        exact bodyPost_ret (v := .string (docV z s (hs0 z key.size).ws)) (results_tmp1 Tryd.results21 _ _ _ (by kernel_rfl)) (by kernel_rfl) ⟨rfl, below_grown M.old⟩

set_option maxRecDepth 100000 in
set_option maxHeartbeats 4000000 in
theorem d_sum1 (z : Nat) (h1 : 1 ≤ z) (h2 : z ≤ 32) (key s : ByteArray) (hs : s.size < 100000) (hz : ¬ key.size = 0) (h3 : key.size ≤ 32) (A : ByteArray) (hA : key ++ zs (64 - key.size) ++ s = A) (w : World) (hL : Laid w)  :
    Calls Tryd.prog 21 #[.int .i64 (z : Int), .string key, .string s] w fun r w' => r = .returned (.string (docV z A (hs0 z key.size).ws)) ∧ Below w.heap.size w w' := by
  go_enter Tryd.func21, Tryd.ntmps21
  have M := Mem.start hL
  have hAs : A.size = 64 + s.size := by rw [← hA, ByteArray.size_append, ByteArray.size_append, zs_size]; omega
  refine wp_seq ?_
  refine rg_lit ?_
  refine pl_val (want_no rfl) (some 6) rfl (.string ⟨#[]⟩) (fun _ => by kernel_rfl) ?_
  refine pl_nil ?_
  refine au_then ?_
  refine wp_seq ?_
  refine rg_lit ?_
  refine pl_call M (want_no rfl) (some 13) rfl 26 #[] (.agg (av 8 (w32 HB))) (fun _ => by kernel_rfl) (fun w M => d_begin w M.laid) ?_
  intro u1 M
  refine pl_new M (want_no rfl) (some 7) rfl (.cells (av 8 (w32 (fun _ => 0))) 57) (fun _ => by kernel_rfl) ?_
  intro g1 u2 M
  replace M : Mem ⟨w, []⟩ [⟨g1, .cells (av 8 (w32 (fun _ => 0))) 57⟩] u2 := M
  refine pl_put M (want_no rfl) rfl 57 _ _ rfl 0 g1 0 (by kernel_rfl) 8 57 (w32 (fun _ => 0)) rfl 8 (w32 HB) (w32 HB) (by kernel_rfl) inz57 (by decide) (fun _ _ => rfl) (fun j hj => by rw [if_pos (by omega), Nat.sub_zero]) ?_
  intro u3 M
  replace M : Mem ⟨w, []⟩ [⟨g1, .cells (av 8 (w32 HB)) 57⟩] u3 := M
  refine pl_nil ?_
  refine au_then ?_
  refine wp_seq ?_
  refine rg_lit ?_
  refine pl_val (want_no rfl) (some 14) rfl (.pointer (some ⟨g1, 0, none⟩)) (fun _ => by kernel_rfl) ?_
  refine pl_cell M (want_no rfl) (some 15) rfl 56 _ rfl g1 0 (by kernel_rfl) (.int .u32 (HB 0)) (fun _ => by kernel_rfl) (fun w M => M.cell 0 rfl (by decide) rfl) ?_
  refine pl_val (want_no rfl) (some 16) rfl (.int .u32 (vx (HB 0) 16842752)) (fun _ => by kernel_rfl) ?_
  refine pl_val (want_no rfl) (some 17) rfl (.string key) (fun _ => by kernel_rfl) ?_
  refine pl_val (want_no rfl) (some 18) rfl (.int .i64 (key.size : Int)) (fun _ => by kernel_rfl) ?_
  refine pl_val (want_no rfl) (some 19) rfl (.int .u32 (cv .u32 (key.size : Int))) (fun _ => by kernel_rfl) ?_
  refine pl_val (want_no rfl) (some 20) rfl (.int .u32 (vl (cv .u32 (key.size : Int)) 8)) (fun _ => by kernel_rfl) ?_
  refine pl_val (want_no rfl) (some 21) rfl (.int .u32 (vx (vx (HB 0) 16842752) (vl (cv .u32 (key.size : Int)) 8))) (fun _ => by kernel_rfl) ?_
  refine pl_val (want_no rfl) (some 22) rfl (.int .i64 (z : Int)) (fun _ => by kernel_rfl) ?_
  refine pl_val (want_no rfl) (some 23) rfl (.int .u32 (cv .u32 (z : Int))) (fun _ => by kernel_rfl) ?_
  refine pl_val (want_no rfl) (some 24) rfl (.int .u32 (vx (vx (vx (HB 0) 16842752) (vl (cv .u32 (key.size : Int)) 8)) (cv .u32 (z : Int)))) (fun _ => by kernel_rfl) ?_
  refine pl_val (want_no rfl) (some 25) rfl (.pointer (some ⟨g1, 0, none⟩)) (fun _ => by kernel_rfl) ?_
  refine pl_put1 M (want_no rfl) rfl 56 _ _ rfl 0 g1 0 (by kernel_rfl) 8 57 (w32 HB) rfl (.int .u32 (vx (vx (vx (HB 0) 16842752) (vl (cv .u32 (key.size : Int)) 8)) (cv .u32 (z : Int)))) (w32 (upd HB 0 (vx (vx (vx (HB 0) 16842752) (vl (cv .u32 (key.size : Int)) 8)) (cv .u32 (z : Int))))) (by kernel_rfl) inz56 (by decide) rfl rfl (fun j _ => put_w32 _ _ _ j) ?_
  intro u4 M
  replace M : Mem ⟨w, []⟩ [⟨g1, .cells (av 8 (w32 (upd HB 0 (vx (vx (vx (HB 0) 16842752) (vl (cv .u32 (key.size : Int)) 8)) (cv .u32 (z : Int)))))) 57⟩] u4 := M
  refine pl_nil ?_
  rw [hd0_eq] at M
  replace M : Mem ⟨w, []⟩ [⟨g1, .cells (av 8 (w32 (hs0 z key.size).ws)) 57⟩] u4 := M
  refine au_then ?_
  refine wp_seq ?_
  refine rg_lit ?_
  refine pl_val (want_no rfl) (some 26) rfl (.string s) (fun _ => by kernel_rfl) ?_
  refine pl_val (want_no rfl) (some 8) rfl (.string s) (fun _ => by kernel_rfl) ?_
  refine pl_nil ?_
  refine au_then ?_
  refine wp_seq ?_
  refine wp_seq ?_
  refine rg_lit ?_
  refine pl_val (want_no rfl) (some 27) rfl (.string key) (fun _ => by kernel_rfl) ?_
  refine pl_val (want_no rfl) (some 28) rfl (.bool true) (fun w => Eq.trans (b := .ok (.value (.bool (!(key.toList == (⟨#[]⟩ : ByteArray).toList)))) w) (by kernel_rfl) (by rw [key_ne key hz]; rfl)) ?_
  refine pl_nil ?_
  refine au_then ?_
  refine wp_cond_true (by kernel_rfl) ?_
  refine rg_lit ?_
  refine pl_val (want_no rfl) (some 29) rfl (.string key) (fun _ => by kernel_rfl) ?_
  refine pl_val (want_no rfl) (some 30) rfl (.string key) (fun _ => by kernel_rfl) ?_
  refine pl_val (want_no rfl) (some 31) rfl (.int .i64 (key.size : Int)) (fun _ => by kernel_rfl) ?_
  refine pl_val (want_no rfl) (some 32) rfl (.int .i64 ((64 - key.size : Nat) : Int)) (fun w => Eq.trans (b := .ok (.value (.int .i64 (IntKind.wrap .i64 (64 - (key.size : Int))))) w) (by kernel_rfl) (by rw [wrap64 (by omega) (by omega)]; congr 3 <;> omega)) ?_
  refine pl_makeZ M (want_no rfl) (some 33) rfl 42 5 _ Tryd.underlying42 info5_eq info5_z (by kernel_rfl) (by decide +kernel) _ _ rfl .i64 .i64 (64 - key.size) (by kernel_rfl) (by kernel_rfl) (by omega) ?_
  intro g2 Zg2 u5 hZg2 M
  replace M : Mem ⟨w, []⟩ [⟨g1, .cells (av 8 (w32 (hs0 z key.size).ws)) 57⟩, ⟨g2, Zg2⟩] u5 := M
  refine pl_back M (want_no rfl) (some 34) rfl _ rfl 1 g2 (64 - key.size) (64 - key.size) (by kernel_rfl) Zg2 rfl (List.replicate (64 - key.size) 0) (64 - key.size) hZg2 (List.length_replicate ..) (fun x hx => by rw [(List.mem_replicate.1 hx).2]; decide) ?_
  rw [bs_zero]
  refine pl_val (want_no rfl) (some 35) rfl (.string (key ++ zs (64 - key.size))) (run_cat 9 9 _ _ rfl key (zs (64 - key.size)) (by kernel_rfl) (by kernel_rfl) (by rw [zs_size]; omega)) ?_
  refine pl_val (want_no rfl) (some 36) rfl (.string s) (fun _ => by kernel_rfl) ?_
  refine pl_val (want_no rfl) (some 37) rfl (.string A) (fun w => Eq.trans (run_cat 9 9 _ _ rfl (key ++ zs (64 - key.size)) s (by kernel_rfl) (by kernel_rfl) (by rw [ByteArray.size_append, zs_size]; omega) w) (by rw [hA])) ?_
  refine pl_val (want_no rfl) (some 8) rfl (.string A) (fun _ => by kernel_rfl) ?_
  refine pl_nil ?_
  refine au_then ?_
  refine wp_seq ?_
  refine rg_lit ?_
  refine pl_val (want_no rfl) (some 9) rfl (.int .i64 0) (fun _ => by kernel_rfl) ?_
  refine pl_nil ?_
  refine au_then ?_
  refine wp_seq ?_
  refine wp_block ?_
  obtain ⟨NB, hNB⟩ : ∃ NB, NB = nbl A := ⟨_, rfl⟩
  have hNB2 : NB = (A.size - 1) / 64 := hNB
  refine au_loop (fun j a w' => ∃ v1 : Nat → Value, a = ⟨#[.int .i64 (z : Int), .string key, .string s, undef, undef, undef, .string ⟨#[]⟩, .pointer (some ⟨g1, 0, none⟩), .string A, .int .i64 ((64 * j : Nat) : Int), undef, undef, undef, .agg (av 8 (w32 HB)), .pointer (some ⟨g1, 0, none⟩), .int .u32 (HB 0), .int .u32 (vx (HB 0) 16842752), .string key, .int .i64 (key.size : Int), .int .u32 (cv .u32 (key.size : Int)), .int .u32 (vl (cv .u32 (key.size : Int)) 8), .int .u32 (vx (vx (HB 0) 16842752) (vl (cv .u32 (key.size : Int)) 8)), .int .i64 (z : Int), .int .u32 (cv .u32 (z : Int)), .int .u32 (vx (vx (vx (HB 0) 16842752) (vl (cv .u32 (key.size : Int)) 8)) (cv .u32 (z : Int))), .pointer (some ⟨g1, 0, none⟩), .string s, .string key, .bool true, .string key, .string key, .int .i64 (key.size : Int), .int .i64 ((64 - key.size : Nat) : Int), .slice (some ⟨g2, 0, none⟩) (64 - key.size) (64 - key.size), .string (zs (64 - key.size)), .string (key ++ zs (64 - key.size)), .string s, .string A, v1 38, v1 39, v1 40, v1 41, v1 42, v1 43, v1 44, v1 45, v1 46, v1 47, v1 48, v1 49, v1 50, v1 51, v1 52, v1 53, v1 54, undef, undef, undef, undef, undef, undef, undef, undef, undef, undef, undef, undef, undef, undef, undef, undef, undef, undef, undef, undef, undef, undef, undef, undef, undef, undef, undef, undef, undef, undef, undef, undef, undef, undef, undef], []⟩ ∧ Mem ⟨w, []⟩ [⟨g1, .cells (av 8 (w32 (pcs A (hs0 z key.size).ws j))) 57⟩, ⟨g2, Zg2⟩] w') NB ⟨fun k_ => ([undef, undef, undef, undef, undef, undef, undef, undef, undef, undef, undef, undef, undef, undef, undef, undef, undef] : List Value).getD (k_ - 38) undef, by kernel_rfl, M⟩ ?_ ?_
  · intro j a u0 hj hI
    obtain ⟨v1, rfl, M⟩ := hI
    refine wp_seq ?_
    refine wp_seq ?_
    refine rg_lit ?_
    refine pl_val (want_no rfl) (some 38) rfl (.string A) (fun _ => by kernel_rfl) ?_
    refine pl_val (want_no rfl) (some 39) rfl (.int .i64 (A.size : Int)) (fun _ => by kernel_rfl) ?_
    refine pl_val (want_no rfl) (some 40) rfl (.int .i64 ((64 * j : Nat) : Int)) (fun _ => by kernel_rfl) ?_
    refine pl_val (want_no rfl) (some 41) rfl (.int .i64 ((A.size - 64 * j : Nat) : Int)) (fun w => Eq.trans (b := .ok (.value (.int .i64 (IntKind.wrap .i64 ((A.size : Int) - ((64 * j : Nat) : Int))))) w) (by kernel_rfl) (by rw [wrap64 (by omega) (by omega)]; congr 3 <;> omega)) ?_
    refine pl_val (want_no rfl) (some 42) rfl (.bool true) (fun w => Eq.trans (b := .ok (.value (.bool (decide ((64 : Int) < ((A.size - 64 * j : Nat) : Int))))) w) (by kernel_rfl) (by rw [decide_eq_true (by omega)])) ?_
    refine pl_nil ?_
    refine au_then ?_
    refine wp_cond_true (by kernel_rfl) ?_
    refine wp_skip ?_
    refine au_then ?_
    refine wp_block ?_
    refine wp_seq ?_
    refine rg_tail M 10 (by kernel_rfl) (by kernel_rfl) ?_
    simp only [List.take_succ_cons, List.take_zero]
    refine k_load M (want_no rfl) (some 43) rfl 57 _ rfl 0 g1 0 (by kernel_rfl) 8 57 (w32 (pcs A (hs0 z key.size).ws j)) rfl 8 (w32 (pcs A (hs0 z key.size).ws j)) (fun j _ => by rw [Nat.zero_add]) (by decide) _ Tryd.underlying57 rfl inz57 ?_
    refine k_val (want_no rfl) (some 44) rfl (.string A) (fun _ => by kernel_rfl) ?_
    refine k_val (want_no rfl) (some 45) rfl (.int .i64 ((64 * j : Nat) : Int)) (fun _ => by kernel_rfl) ?_
    refine k_val (want_no rfl) (some 46) rfl (.int .i64 ((64 * j : Nat) : Int)) (fun _ => by kernel_rfl) ?_
    refine k_val (want_no rfl) (some 47) rfl (.int .i64 ((64 * j + 64 : Nat) : Int)) (fun w => Eq.trans (b := .ok (.value (.int .i64 (IntKind.wrap .i64 (((64 * j : Nat) : Int) + 64)))) w) (by kernel_rfl) (by rw [wrap64 (by omega) (by omega)]; congr 3 <;> omega)) ?_
    refine k_val (want_no rfl) (some 48) rfl (.string (A.extract (64 * j) (64 * j + 64))) (run_strlh 9 Tryd.underlying9 _ _ _ rfl A (by kernel_rfl) .i64 .i64 (64 * j) (64 * j + 64) (by kernel_rfl) (by kernel_rfl) (by omega) (by omega)) ?_
    refine k_val (want_no rfl) (some 49) rfl (.int .i64 ((64 * j : Nat) : Int)) (fun _ => by kernel_rfl) ?_
    refine k_val (want_no rfl) (some 50) rfl (.int .i64 ((64 * j + 64 : Nat) : Int)) (fun w => Eq.trans (b := .ok (.value (.int .i64 (IntKind.wrap .i64 (((64 * j : Nat) : Int) + 64)))) w) (by kernel_rfl) (by rw [wrap64 (by omega) (by omega)]; congr 3 <;> omega)) ?_
    refine k_val (want_no rfl) (some 51) rfl (.int .u64 (cv .u64 ((64 * j + 64 : Nat) : Int))) (fun _ => by kernel_rfl) ?_
    refine k_call M (want_no rfl) (some 52) rfl 27 #[.agg (av 8 (w32 (pcs A (hs0 z key.size).ws j))), .string (A.extract (64 * j) (64 * j + 64)), .int .u64 (cv .u64 ((64 * j + 64 : Nat) : Int)), .bool false] (.agg (av 8 (w32 (pcs A (hs0 z key.size).ws (j + 1))))) (fun _ => by kernel_rfl) (fun w M => d_piece (pcs A (hs0 z key.size).ws j) _ (by rw [ByteArray.size_extract]; omega) _ _ w M.laid) ?_
    refine kl_nil ?_
    intro u6 M
    replace M : Mem ⟨w, []⟩ [⟨g1, .cells (av 8 (w32 (pcs A (hs0 z key.size).ws j))) 57⟩, ⟨g2, Zg2⟩] u6 := M
    refine pl_put M (want_no rfl) rfl 57 _ _ rfl 0 g1 0 (by kernel_rfl) 8 57 (w32 (pcs A (hs0 z key.size).ws j)) rfl 8 (w32 (pcs A (hs0 z key.size).ws (j + 1))) (w32 (pcs A (hs0 z key.size).ws (j + 1))) (by kernel_rfl) inz57 (by decide) (fun _ _ => rfl) (fun j hj => by rw [if_pos (by omega), Nat.sub_zero]) ?_
    intro u7 M
    replace M : Mem ⟨w, []⟩ [⟨g1, .cells (av 8 (w32 (pcs A (hs0 z key.size).ws (j + 1)))) 57⟩, ⟨g2, Zg2⟩] u7 := M
    refine pl_nil ?_
    refine au_then ?_
    refine rg_lit ?_
    refine pl_val (want_no rfl) (some 53) rfl (.int .i64 ((64 * j : Nat) : Int)) (fun _ => by kernel_rfl) ?_
    refine pl_val (want_no rfl) (some 54) rfl (.int .i64 ((64 * (j + 1) : Nat) : Int)) (fun w => Eq.trans (b := .ok (.value (.int .i64 (IntKind.wrap .i64 (((64 * j : Nat) : Int) + 64)))) w) (by kernel_rfl) (by rw [wrap64 (by omega) (by omega)]; congr 3 <;> omega)) ?_
    refine pl_val (want_no rfl) (some 9) rfl (.int .i64 ((64 * (j + 1) : Nat) : Int)) (fun _ => by kernel_rfl) ?_
    refine pl_nil ?_
    refine au_block ?_
    refine au_then ?_
    exact ⟨fun k_ => ([.string A, .int .i64 (A.size : Int), .int .i64 ((64 * j : Nat) : Int), .int .i64 ((A.size - 64 * j : Nat) : Int), .bool true, .agg (av 8 (w32 (pcs A (hs0 z key.size).ws j))), .string A, .int .i64 ((64 * j : Nat) : Int), .int .i64 ((64 * j : Nat) : Int), .int .i64 ((64 * j + 64 : Nat) : Int), .string (A.extract (64 * j) (64 * j + 64)), .int .i64 ((64 * j : Nat) : Int), .int .i64 ((64 * j + 64 : Nat) : Int), .int .u64 (cv .u64 ((64 * j + 64 : Nat) : Int)), .agg (av 8 (w32 (pcs A (hs0 z key.size).ws (j + 1)))), .int .i64 ((64 * j : Nat) : Int), .int .i64 ((64 * (j + 1) : Nat) : Int)] : List Value).getD (k_ - 38) undef, by kernel_rfl, M⟩
  · intro a u0 hI
    obtain ⟨v1, rfl, M⟩ := hI
    have hr1 : A.extract (64 * NB) A.size = rst A := by unfold rst; rw [hNB]
    have hr2 : (rst A).size = A.size - 64 * NB := by rw [← hr1, size_extract]
    have hdf : mixW (pcs A (hs0 z key.size).ws NB) (wd (bt (rst A ++ zs (64 - (rst A).size))) 64) (cv .u64 (A.size : Int)) true = dfin A (hs0 z key.size).ws := by unfold dfin; rw [hNB]
    refine wp_seq ?_
    refine wp_seq ?_
    refine rg_lit ?_
    refine pl_val (want_no rfl) (some 38) rfl (.string A) (fun _ => by kernel_rfl) ?_
    refine pl_val (want_no rfl) (some 39) rfl (.int .i64 (A.size : Int)) (fun _ => by kernel_rfl) ?_
    refine pl_val (want_no rfl) (some 40) rfl (.int .i64 ((64 * NB : Nat) : Int)) (fun _ => by kernel_rfl) ?_
    refine pl_val (want_no rfl) (some 41) rfl (.int .i64 ((A.size - 64 * NB : Nat) : Int)) (fun w => Eq.trans (b := .ok (.value (.int .i64 (IntKind.wrap .i64 ((A.size : Int) - ((64 * NB : Nat) : Int))))) w) (by kernel_rfl) (by rw [wrap64 (by omega) (by omega)]; congr 3 <;> omega)) ?_
    refine pl_val (want_no rfl) (some 42) rfl (.bool false) (fun w => Eq.trans (b := .ok (.value (.bool (decide ((64 : Int) < ((A.size - 64 * NB : Nat) : Int))))) w) (by kernel_rfl) (by rw [decide_eq_false (by omega)])) ?_
    refine pl_nil ?_
    refine au_then ?_
    refine wp_cond_false (by kernel_rfl) ?_
    refine wp_exit ?_
    refine au_then_exit ?_
    refine au_then_exit ?_
    refine au_block_exit ?_
    refine au_then ?_
    refine wp_seq ?_
    refine rg_lit ?_
    refine pl_val (want_no rfl) (some 55) rfl (.string A) (fun _ => by kernel_rfl) ?_
    refine pl_val (want_no rfl) (some 56) rfl (.int .i64 ((64 * NB : Nat) : Int)) (fun _ => by kernel_rfl) ?_
    refine pl_val (want_no rfl) (some 57) rfl (.string (rst A)) (run_strl 9 Tryd.underlying9 _ _ rfl A (by kernel_rfl) .i64 (64 * NB) (by kernel_rfl) (by omega) _ hr1) ?_
    refine pl_val (want_no rfl) (some 10) rfl (.string (rst A)) (fun _ => by kernel_rfl) ?_
    refine pl_nil ?_
    refine au_then ?_
    refine wp_seq ?_
    refine rg_held M [⟨g1, .cells (av 8 (w32 (pcs A (hs0 z key.size).ws NB))) 57⟩, ⟨g2, Zg2⟩] 12 rfl (by kernel_rfl) (by kernel_rfl) (fun _ _ d _ _ h => by cases d <;> exact h) ?_
    intro u8 M
    replace M : Mem ⟨w, []⟩ [⟨g1, .cells (av 8 (w32 (pcs A (hs0 z key.size).ws NB))) 57⟩, ⟨g2, Zg2⟩] u8 := M
    refine hl_load M 0 rfl (by decide) (by kernel_rfl) (by kernel_rfl) (want_no rfl) (some 58) rfl 57 _ rfl 0 g1 0 (by kernel_rfl) 8 57 (w32 (pcs A (hs0 z key.size).ws NB)) rfl 8 (w32 (pcs A (hs0 z key.size).ws NB)) (fun j _ => by rw [Nat.zero_add]) (by decide) _ Tryd.underlying57 rfl inz57 ?_
    refine hl_val M 1 rfl (by decide) (by kernel_rfl) (by kernel_rfl) (want_no rfl) (some 59) rfl (.string (rst A)) (fun _ _ => by kernel_rfl) ?_
    refine hl_val M 2 rfl (by decide) (by kernel_rfl) (by kernel_rfl) (want_no rfl) (some 60) rfl (.string (rst A)) (fun _ _ => by kernel_rfl) ?_
    refine hl_val M 3 rfl (by decide) (by kernel_rfl) (by kernel_rfl) (want_no rfl) (some 61) rfl (.int .i64 ((rst A).size : Int)) (fun _ _ => by kernel_rfl) ?_
    refine hl_val M 4 rfl (by decide) (by kernel_rfl) (by kernel_rfl) (want_no rfl) (some 62) rfl (.int .i64 ((64 - (rst A).size : Nat) : Int)) (fun w _ => (fun w => Eq.trans (b := .ok (.value (.int .i64 (IntKind.wrap .i64 (64 - ((rst A).size : Int))))) w) (by kernel_rfl) (by rw [wrap64 (by omega) (by omega)]; congr 3 <;> omega)) w) ?_
    refine hl_val M 8 rfl (by decide) (by kernel_rfl) (by kernel_rfl) (want_no rfl) (some 66) rfl (.string A) (fun _ _ => by kernel_rfl) ?_
    refine hl_val M 9 rfl (by decide) (by kernel_rfl) (by kernel_rfl) (want_no rfl) (some 67) rfl (.int .i64 (A.size : Int)) (fun _ _ => by kernel_rfl) ?_
    refine hl_val M 10 rfl (by decide) (by kernel_rfl) (by kernel_rfl) (want_no rfl) (some 68) rfl (.int .u64 (cv .u64 (A.size : Int))) (fun _ _ => by kernel_rfl) ?_
    refine hl_one 5 (by decide) (by kernel_rfl) rfl ?_
    refine pl_makeZ M (want_no rfl) (some 63) rfl 42 5 _ Tryd.underlying42 info5_eq info5_z (by kernel_rfl) (by decide +kernel) _ _ rfl .i64 .i64 (64 - (rst A).size) (by kernel_rfl) (by kernel_rfl) (by omega) ?_
    intro g3 Zg3 u9 hZg3 M
    replace M : Mem ⟨w, []⟩ [⟨g1, .cells (av 8 (w32 (pcs A (hs0 z key.size).ws NB))) 57⟩, ⟨g2, Zg2⟩, ⟨g3, Zg3⟩] u9 := M
    refine pl_nil ?_
    refine au_then ?_
    refine ⟨(M.drop (.cons_cons _ (.cons_cons _ (.cons _ (.slnil))))), ?_⟩
    refine hl_one 6 (by decide) (by kernel_rfl) rfl ?_
    refine pl_back M (want_no rfl) (some 64) rfl _ rfl 2 g3 (64 - (rst A).size) (64 - (rst A).size) (by kernel_rfl) Zg3 rfl (List.replicate (64 - (rst A).size) 0) (64 - (rst A).size) hZg3 (List.length_replicate ..) (fun x hx => by rw [(List.mem_replicate.1 hx).2]; decide) ?_
    rw [bs_zero]
    refine pl_nil ?_
    refine au_then ?_
    refine ⟨(M.drop (.cons_cons _ (.cons_cons _ (.cons _ (.slnil))))), ?_⟩
    refine hl_val (M.drop (.cons_cons _ (.cons_cons _ (.cons _ (.slnil))))) 7 rfl (by decide) (by kernel_rfl) (by kernel_rfl) (want_no rfl) (some 65) rfl (.string (rst A ++ zs (64 - (rst A).size))) (fun w _ => (run_cat 9 9 _ _ rfl (rst A) (zs (64 - (rst A).size)) (by kernel_rfl) (by kernel_rfl) (by rw [zs_size]; omega)) w) ?_
    refine hl_one 11 (by decide) (by kernel_rfl) rfl ?_
    refine pl_call M (want_no rfl) (some 69) rfl 27 #[.agg (av 8 (w32 (pcs A (hs0 z key.size).ws NB))), .string (rst A ++ zs (64 - (rst A).size)), .int .u64 (cv .u64 (A.size : Int)), .bool true] (.agg (av 8 (w32 (dfin A (hs0 z key.size).ws)))) (fun _ => by kernel_rfl) (fun w M => (by rw [← hdf]; exact d_piece (pcs A (hs0 z key.size).ws NB) _ (by rw [ByteArray.size_append, zs_size]; omega) _ _ w M.laid)) ?_
    intro u10 M
    refine pl_nil ?_
    refine au_then ?_
    refine ⟨(M.drop (.cons_cons _ (.cons_cons _ (.cons _ (.slnil))))), ?_⟩
    refine hl_end (by kernel_rfl) (by kernel_rfl) rfl ?_
    refine pl_put M (want_no rfl) rfl 57 _ _ rfl 0 g1 0 (by kernel_rfl) 8 57 (w32 (pcs A (hs0 z key.size).ws NB)) rfl 8 (w32 (dfin A (hs0 z key.size).ws)) (w32 (dfin A (hs0 z key.size).ws)) (by kernel_rfl) inz57 (by decide) (fun _ _ => rfl) (fun j hj => by rw [if_pos (by omega), Nat.sub_zero]) ?_
    intro u11 M
    replace M : Mem ⟨w, []⟩ [⟨g1, .cells (av 8 (w32 (dfin A (hs0 z key.size).ws))) 57⟩, ⟨g2, Zg2⟩, ⟨g3, Zg3⟩] u11 := M
    refine pl_nil ?_
    refine au_then ?_
    refine au_then ?_
    refine wp_seq ?_
    refine rg_lit ?_
    refine pl_val (want_no rfl) (some 11) rfl (.slice none 0 0) (fun _ => by kernel_rfl) ?_
    refine pl_nil ?_
    refine au_then ?_
    refine wp_seq ?_
    refine wp_seq ?_
    refine rg_lit ?_
    refine pl_val (want_no rfl) (some 12) rfl (.int .i64 0) (fun _ => by kernel_rfl) ?_
    refine pl_nil ?_
    refine au_then ?_
    refine wp_block ?_
    replace M := M.drop (L' := [⟨g1, .cells (av 8 (w32 (dfin A (hs0 z key.size).ws))) 57⟩]) (.cons_cons _ (.cons _ (.cons _ (.slnil))))
    refine au_loop (fun j a w' => ∃ (v9 : Nat → Value) (sl : Value), a = ⟨#[.int .i64 (z : Int), .string key, .string s, undef, undef, undef, .string ⟨#[]⟩, .pointer (some ⟨g1, 0, none⟩), .string A, .int .i64 ((64 * NB : Nat) : Int), .string (rst A), sl, .int .i64 (j : Int), .agg (av 8 (w32 HB)), .pointer (some ⟨g1, 0, none⟩), .int .u32 (HB 0), .int .u32 (vx (HB 0) 16842752), .string key, .int .i64 (key.size : Int), .int .u32 (cv .u32 (key.size : Int)), .int .u32 (vl (cv .u32 (key.size : Int)) 8), .int .u32 (vx (vx (HB 0) 16842752) (vl (cv .u32 (key.size : Int)) 8)), .int .i64 (z : Int), .int .u32 (cv .u32 (z : Int)), .int .u32 (vx (vx (vx (HB 0) 16842752) (vl (cv .u32 (key.size : Int)) 8)) (cv .u32 (z : Int))), .pointer (some ⟨g1, 0, none⟩), .string s, .string key, .bool true, .string key, .string key, .int .i64 (key.size : Int), .int .i64 ((64 - key.size : Nat) : Int), .slice (some ⟨g2, 0, none⟩) (64 - key.size) (64 - key.size), .string (zs (64 - key.size)), .string (key ++ zs (64 - key.size)), .string s, .string A, .string A, .int .i64 (A.size : Int), .int .i64 ((64 * NB : Nat) : Int), .int .i64 ((A.size - 64 * NB : Nat) : Int), .bool false, v1 43, v1 44, v1 45, v1 46, v1 47, v1 48, v1 49, v1 50, v1 51, v1 52, v1 53, v1 54, .string A, .int .i64 ((64 * NB : Nat) : Int), .string (rst A), .agg (av 8 (w32 (pcs A (hs0 z key.size).ws NB))), .string (rst A), .string (rst A), .int .i64 ((rst A).size : Int), .int .i64 ((64 - (rst A).size : Nat) : Int), .slice (some ⟨g3, 0, none⟩) (64 - (rst A).size) (64 - (rst A).size), .string (zs (64 - (rst A).size)), .string (rst A ++ zs (64 - (rst A).size)), .string A, .int .i64 (A.size : Int), .int .u64 (cv .u64 (A.size : Int)), .agg (av 8 (w32 (dfin A (hs0 z key.size).ws))), v9 70, v9 71, v9 72, v9 73, v9 74, v9 75, v9 76, v9 77, v9 78, v9 79, v9 80, v9 81, v9 82, v9 83, v9 84, v9 85, v9 86, v9 87, undef, undef], []⟩ ∧ ((j = 0 ∧ sl = .slice none 0 0 ∧ Mem ⟨w, []⟩ [⟨g1, .cells (av 8 (w32 (dfin A (hs0 z key.size).ws))) 57⟩] w') ∨ (∃ (gq capq : Nat) (Zq : Obj), sl = .slice (some ⟨gq, 0, none⟩) j capq ∧ SB Zq capq (vs8 (outL (dfin A (hs0 z key.size).ws) j)) ∧ Mem ⟨w, []⟩ [⟨g1, .cells (av 8 (w32 (dfin A (hs0 z key.size).ws))) 57⟩, ⟨gq, Zq⟩] w'))) z ⟨fun k_ => ([undef, undef, undef, undef, undef, undef, undef, undef, undef, undef, undef, undef, undef, undef, undef, undef, undef, undef] : List Value).getD (k_ - 70) undef, .slice none 0 0, by kernel_rfl, .inl ⟨rfl, rfl, M⟩⟩ ?_ ?_
    · intro j a u0 hj hI
      obtain ⟨v9, sl, rfl, hI⟩ := hI
      rcases hI with ⟨rfl, rfl, M⟩ | ⟨gq, capq, Zq, rfl, hZq, M⟩
      · skip
        refine wp_seq ?_
        refine wp_seq ?_
        refine rg_lit ?_
        refine pl_val (want_no rfl) (some 70) rfl (.int .i64 0) (fun _ => by kernel_rfl) ?_
        refine pl_val (want_no rfl) (some 71) rfl (.int .i64 (z : Int)) (fun _ => by kernel_rfl) ?_
        refine pl_val (want_no rfl) (some 72) rfl (.bool true) (fun w => Eq.trans (b := .ok (.value (.bool (decide ((0 : Int) < (z : Int))))) w) (by kernel_rfl) (by rw [decide_eq_true (by omega)])) ?_
        refine pl_nil ?_
        refine au_then ?_
        refine wp_cond_true (by kernel_rfl) ?_
        refine wp_skip ?_
        refine au_then ?_
        refine wp_seq ?_
        refine wp_block ?_
        refine rg_lit ?_
        refine pl_val (want_no rfl) (some 75) rfl (.slice none 0 0) (fun _ => by kernel_rfl) ?_
        refine pl_val (want_no rfl) (some 76) rfl (.int .i64 0) (fun _ => by kernel_rfl) ?_
        refine pl_val (want_no rfl) (some 77) rfl (.int .i64 0) (fun _ => by kernel_rfl) ?_
        refine pl_val (want_no rfl) (some 78) rfl (.pointer (some ⟨g1, 0, none⟩)) (fun _ => by kernel_rfl) ?_
        refine pl_cell M (want_no rfl) (some 79) rfl 56 _ rfl g1 0 (by kernel_rfl) (.int .u32 ((dfin A (hs0 z key.size).ws) 0)) (fun _ => by kernel_rfl) (fun w M => M.cell 0 rfl (by decide) rfl) ?_
        refine pl_val (want_no rfl) (some 80) rfl (.int .i64 0) (fun _ => by kernel_rfl) ?_
        refine pl_val (want_no rfl) (some 81) rfl (.int .i64 0) (fun _ => by kernel_rfl) ?_
        refine pl_val (want_no rfl) (some 82) rfl (.int .i64 0) (fun _ => by kernel_rfl) ?_
        refine pl_val (want_no rfl) (some 83) rfl (.int .u64 0) (fun _ => by kernel_rfl) ?_
        refine pl_val (want_no rfl) (some 84) rfl (.int .u32 (sr ((dfin A (hs0 z key.size).ws) 0) 0)) (fun _ => by kernel_rfl) ?_
        refine pl_val (want_no rfl) (some 85) rfl (.int .u8 (cv .u8 (sr ((dfin A (hs0 z key.size).ws) 0) 0))) (fun _ => by kernel_rfl) ?_
        refine pl_mk M (want_no rfl) (some 86) rfl (fun g4 => .slice (some ⟨g4, 0, none⟩) 1 1) (.cells (av 1 (fun _ => .int .u8 (cv .u8 (sr ((dfin A (hs0 z key.size).ws) 0) 0)))) 5) (fun _ => by kernel_rfl) ?_
        intro g4 u12 M
        replace M : Mem ⟨w, []⟩ [⟨g1, .cells (av 8 (w32 (dfin A (hs0 z key.size).ws))) 57⟩, ⟨g4, .cells (av 1 (fun _ => .int .u8 (cv .u8 (sr ((dfin A (hs0 z key.size).ws) 0) 0)))) 5⟩] u12 := M
        refine pl_app0 M (want_no rfl) (some 87) rfl 42 42 5 _ (.int .u8 0) Tryd.underlying42 info5_eq info5_z (by kernel_rfl) (by decide +kernel) rfl 1 g4 5 (.int .u8 (cv .u8 (sr ((dfin A (hs0 z key.size).ws) 0) 0))) rfl (fun _ => by kernel_rfl) ?_
        intro e1 c1 Y1 u13 hY1 M
        replace M : Mem ⟨w, []⟩ [⟨g1, .cells (av 8 (w32 (dfin A (hs0 z key.size).ws))) 57⟩, ⟨g4, .cells (av 1 (fun _ => .int .u8 (cv .u8 (sr ((dfin A (hs0 z key.size).ws) 0) 0)))) 5⟩, ⟨e1, Y1⟩] u13 := M
        refine pl_val (want_no rfl) (some 11) rfl (.slice (some ⟨e1, 0, none⟩) 1 c1) (fun _ => by kernel_rfl) ?_
        refine pl_nil ?_
        refine au_block ?_
        refine au_then ?_
        refine rg_lit ?_
        refine pl_val (want_no rfl) (some 73) rfl (.int .i64 0) (fun _ => by kernel_rfl) ?_
        refine pl_val (want_no rfl) (some 74) rfl (.int .i64 1) (fun _ => by kernel_rfl) ?_
        refine pl_val (want_no rfl) (some 12) rfl (.int .i64 1) (fun _ => by kernel_rfl) ?_
        refine pl_nil ?_
        refine au_then ?_
        exact ⟨fun k_ => ([.int .i64 0, .int .i64 (z : Int), .bool true, .int .i64 0, .int .i64 1, .slice none 0 0, .int .i64 0, .int .i64 0, .pointer (some ⟨g1, 0, none⟩), .int .u32 ((dfin A (hs0 z key.size).ws) 0), .int .i64 0, .int .i64 0, .int .i64 0, .int .u64 0, .int .u32 (sr ((dfin A (hs0 z key.size).ws) 0) 0), .int .u8 (cv .u8 (sr ((dfin A (hs0 z key.size).ws) 0) 0)), .slice (some ⟨g4, 0, none⟩) 1 1, .slice (some ⟨e1, 0, none⟩) 1 c1] : List Value).getD (k_ - 70) undef, _, by kernel_rfl, .inr ⟨e1, c1, Y1, rfl, hY1, M.drop (.cons_cons _ (.cons _ (.cons_cons _ (.slnil))))⟩⟩
      · skip
        refine wp_seq ?_
        refine wp_seq ?_
        refine rg_lit ?_
        refine pl_val (want_no rfl) (some 70) rfl (.int .i64 (j : Int)) (fun _ => by kernel_rfl) ?_
        refine pl_val (want_no rfl) (some 71) rfl (.int .i64 (z : Int)) (fun _ => by kernel_rfl) ?_
        refine pl_val (want_no rfl) (some 72) rfl (.bool true) (fun w => Eq.trans (b := .ok (.value (.bool (decide ((j : Int) < (z : Int))))) w) (by kernel_rfl) (by rw [decide_eq_true (by omega)])) ?_
        refine pl_nil ?_
        refine au_then ?_
        refine wp_cond_true (by kernel_rfl) ?_
        refine wp_skip ?_
        refine au_then ?_
        refine wp_seq ?_
        refine wp_block ?_
        refine rg_lit ?_
        refine pl_val (want_no rfl) (some 75) rfl (.slice (some ⟨gq, 0, none⟩) j capq) (fun _ => by kernel_rfl) ?_
        refine pl_val (want_no rfl) (some 76) rfl (.int .i64 (j : Int)) (fun _ => by kernel_rfl) ?_
        refine pl_val (want_no rfl) (some 77) rfl (.int .i64 ((j / 4 : Nat) : Int)) (fun w => Eq.trans (b := .ok (.value (.int .i64 (IntKind.wrap .i64 ((j : Int).tdiv 4)))) w) (by kernel_rfl) (by rw [quo4 j (by omega)])) ?_
        refine pl_val (want_no rfl) (some 78) rfl (.pointer (some ⟨g1, ((j / 4 : Nat)), none⟩)) (run_ix1 57 8 56 Tryd.underlying57 inz56 _ _ rfl g1 (by kernel_rfl) .i64 ((j / 4 : Nat)) (by kernel_rfl) (by omega)) ?_
        refine pl_cell M (want_no rfl) (some 79) rfl 56 _ rfl g1 ((j / 4 : Nat)) (by kernel_rfl) (.int .u32 ((dfin A (hs0 z key.size).ws) ((j / 4 : Nat)))) (fun _ => by kernel_rfl) (fun w M => M.cell 0 rfl (by omega) rfl) ?_
        refine pl_val (want_no rfl) (some 80) rfl (.int .i64 (j : Int)) (fun _ => by kernel_rfl) ?_
        refine pl_val (want_no rfl) (some 81) rfl (.int .i64 ((j % 4 : Nat) : Int)) (fun w => Eq.trans (b := .ok (.value (.int .i64 (Int.tmod (j : Int) 4))) w) (by kernel_rfl) (by rw [rem4 j])) ?_
        refine pl_val (want_no rfl) (some 82) rfl (.int .i64 ((8 * (j % 4) : Nat) : Int)) (fun w => Eq.trans (b := .ok (.value (.int .i64 (IntKind.wrap .i64 (8 * ((j % 4 : Nat) : Int))))) w) (by kernel_rfl) (by rw [wrap64 (by omega) (by omega)]; congr 3 <;> omega)) ?_
        refine pl_val (want_no rfl) (some 83) rfl (.int .u64 ((8 * (j % 4) : Nat) : Int)) (fun w => Eq.trans (b := .ok (.value (.int .u64 (cv .u64 ((8 * (j % 4) : Nat) : Int)))) w) (by kernel_rfl) (by rw [cv_u64 _ (by omega)])) ?_
        refine pl_val (want_no rfl) (some 84) rfl (.int .u32 (sr ((dfin A (hs0 z key.size).ws) (j / 4)) (8 * (j % 4)))) (run_shrV 56 59 _ _ rfl _ .u64 (8 * (j % 4)) (by kernel_rfl) (by kernel_rfl) (by omega)) ?_
        refine pl_val (want_no rfl) (some 85) rfl (.int .u8 (cv .u8 (sr ((dfin A (hs0 z key.size).ws) (j / 4)) (8 * (j % 4))))) (fun _ => by kernel_rfl) ?_
        refine pl_mk M (want_no rfl) (some 86) rfl (fun g5 => .slice (some ⟨g5, 0, none⟩) 1 1) (.cells (av 1 (fun _ => .int .u8 (cv .u8 (sr ((dfin A (hs0 z key.size).ws) (j / 4)) (8 * (j % 4)))))) 5) (fun _ => by kernel_rfl) ?_
        intro g5 u14 M
        replace M : Mem ⟨w, []⟩ [⟨g1, .cells (av 8 (w32 (dfin A (hs0 z key.size).ws))) 57⟩, ⟨gq, Zq⟩, ⟨g5, .cells (av 1 (fun _ => .int .u8 (cv .u8 (sr ((dfin A (hs0 z key.size).ws) (j / 4)) (8 * (j % 4)))))) 5⟩] u14 := M
        refine pl_app M (want_no rfl) (some 87) rfl 42 42 5 _ (.int .u8 0) Tryd.underlying42 info5_eq info5_z (by kernel_rfl) (by decide +kernel) rfl 1 gq (j) capq Zq (vs8 (outL (dfin A (hs0 z key.size).ws) j)) rfl hZq (by rw [vs8_length, outL_length]) (by omega) 2 g5 5 (.int .u8 (cv .u8 (sr ((dfin A (hs0 z key.size).ws) (j / 4)) (8 * (j % 4))))) rfl rfl (fun _ => by kernel_rfl) ?_
        intro e2 c2 Y2 u15 hY2 M
        rw [vs8_app] at hY2
        replace M : Mem ⟨w, []⟩ [⟨g1, .cells (av 8 (w32 (dfin A (hs0 z key.size).ws))) 57⟩, ⟨g5, .cells (av 1 (fun _ => .int .u8 (cv .u8 (sr ((dfin A (hs0 z key.size).ws) (j / 4)) (8 * (j % 4)))))) 5⟩, ⟨e2, Y2⟩] u15 := M
        refine pl_val (want_no rfl) (some 11) rfl (.slice (some ⟨e2, 0, none⟩) (j + 1) c2) (fun _ => by kernel_rfl) ?_
        refine pl_nil ?_
        refine au_block ?_
        refine au_then ?_
        refine rg_lit ?_
        refine pl_val (want_no rfl) (some 73) rfl (.int .i64 (j : Int)) (fun _ => by kernel_rfl) ?_
        refine pl_val (want_no rfl) (some 74) rfl (.int .i64 ((j + 1 : Nat) : Int)) (fun w => Eq.trans (b := .ok (.value (.int .i64 (IntKind.wrap .i64 ((j : Int) + 1)))) w) (by kernel_rfl) (by rw [wrap64 (by omega) (by omega)]; congr 3)) ?_
        refine pl_val (want_no rfl) (some 12) rfl (.int .i64 ((j + 1 : Nat) : Int)) (fun _ => by kernel_rfl) ?_
        refine pl_nil ?_
        refine au_then ?_
        exact ⟨fun k_ => ([.int .i64 (j : Int), .int .i64 (z : Int), .bool true, .int .i64 (j : Int), .int .i64 ((j + 1 : Nat) : Int), .slice (some ⟨gq, 0, none⟩) j capq, .int .i64 (j : Int), .int .i64 ((j / 4 : Nat) : Int), .pointer (some ⟨g1, ((j / 4 : Nat)), none⟩), .int .u32 ((dfin A (hs0 z key.size).ws) ((j / 4 : Nat))), .int .i64 (j : Int), .int .i64 ((j % 4 : Nat) : Int), .int .i64 ((8 * (j % 4) : Nat) : Int), .int .u64 ((8 * (j % 4) : Nat) : Int), .int .u32 (sr ((dfin A (hs0 z key.size).ws) (j / 4)) (8 * (j % 4))), .int .u8 (cv .u8 (sr ((dfin A (hs0 z key.size).ws) (j / 4)) (8 * (j % 4)))), .slice (some ⟨g5, 0, none⟩) 1 1, .slice (some ⟨e2, 0, none⟩) (j + 1) c2] : List Value).getD (k_ - 70) undef, _, by kernel_rfl, .inr ⟨e2, c2, Y2, rfl, hY2, M.drop (.cons_cons _ (.cons _ (.cons_cons _ (.slnil))))⟩⟩
    · intro a u0 hI
      obtain ⟨v9, sl, rfl, hI⟩ := hI
      rcases hI with ⟨h, _⟩ | ⟨gq, capq, Zq, rfl, hZq, M⟩
      · omega
      · skip
        refine wp_seq ?_
        refine wp_seq ?_
        refine rg_lit ?_
        refine pl_val (want_no rfl) (some 70) rfl (.int .i64 (z : Int)) (fun _ => by kernel_rfl) ?_
        refine pl_val (want_no rfl) (some 71) rfl (.int .i64 (z : Int)) (fun _ => by kernel_rfl) ?_
        refine pl_val (want_no rfl) (some 72) rfl (.bool false) (fun w => Eq.trans (b := .ok (.value (.bool (decide ((z : Int) < (z : Int))))) w) (by kernel_rfl) (by rw [decide_eq_false (by omega)])) ?_
        refine pl_nil ?_
        refine au_then ?_
        refine wp_cond_false (by kernel_rfl) ?_
        refine wp_exit ?_
        refine au_then_exit ?_
        refine au_then_exit ?_
        refine au_block_exit ?_
        refine au_then ?_
        refine wp_seq ?_
        refine rg_lit ?_
        refine pl_val (want_no rfl) (some 88) rfl (.slice (some ⟨gq, 0, none⟩) z capq) (fun _ => by kernel_rfl) ?_
        refine pl_back M (want_no rfl) (some 89) rfl _ rfl 1 gq z capq (by kernel_rfl) Zq rfl (outL (dfin A (hs0 z key.size).ws) z) capq hZq (outL_length _ _) (outL_nn _ _) ?_
        refine pl_val (want_no rfl) (some 6) rfl (.string (docV z A (hs0 z key.size).ws)) (fun _ => by kernel_rfl) ?_
        refine pl_nil ?_
        refine au_then ?_
        refine wp_ret ?_
        exact bodyPost_ret (v := .string (docV z A (hs0 z key.size).ws)) (results_tmp1 Tryd.results21 _ _ _ (by kernel_rfl)) (by kernel_rfl) ⟨rfl, below_grown M.old⟩

/-- The text with its key ahead. -/
def allV (key s : ByteArray) : ByteArray := if key.size = 0 then s else key ++ zs (64 - key.size) ++ s
def docS (z : Nat) (key s : ByteArray) : ByteArray := docV z (allV key s) (hs0 z key.size).ws
theorem d_sum (z : Nat) (h1 : 1 ≤ z) (h2 : z ≤ 32) (key s : ByteArray) (hs : s.size < 100000) (h3 : key.size ≤ 32) (w : World) (hL : Laid w) : Calls Tryd.prog 21 #[.int .i64 (z : Int), .string key, .string s] w fun r w' => r = .returned (.string (docS z key s)) ∧ Below w.heap.size w w' := by
  unfold docS allV
  by_cases hz : key.size = 0
  · rw [if_pos hz]
    exact d_sum0 z h1 h2 key s hs hz w hL
  · rw [if_neg hz]
    exact d_sum1 z h1 h2 key s hs hz h3 _ rfl w hL

set_option maxRecDepth 100000 in
set_option maxHeartbeats 4000000 in
theorem d_of (s : ByteArray) (hs : s.size < 100000) (w : World) (hL : Laid w)  :
    Calls Tryd.prog 17 #[.string s] w fun r w' => r = .returned (.string (docS 32 strE s)) ∧ Below w.heap.size w w' := by
  go_enter Tryd.func17, Tryd.ntmps17
  have M := Mem.start hL
  refine wp_seq ?_
  refine rg_lit ?_
  refine pl_val (want_no rfl) (some 2) rfl (.string ⟨#[]⟩) (fun _ => by kernel_rfl) ?_
  refine pl_nil ?_
  refine au_then ?_
  refine wp_seq ?_
  refine rg_lit ?_
  refine pl_val (want_no rfl) (some 3) rfl (.string s) (fun _ => by kernel_rfl) ?_
  refine pl_call M (want_no rfl) (some 4) rfl 21 #[.int .i64 32, .string ⟨#[]⟩, .string s] (.string (docS 32 strE s)) (fun _ => by kernel_rfl) (fun w M => d_sum 32 (by decide) (by decide) strE s hs (by decide) w M.laid) ?_
  intro u1 M
  refine pl_val (want_no rfl) (some 2) rfl (.string (docS 32 strE s)) (fun _ => by kernel_rfl) ?_
  refine pl_nil ?_
  refine au_then ?_
  refine wp_ret ?_
  exact bodyPost_ret (v := .string (docS 32 strE s)) (results_tmp1 Tryd.results17 _ _ _ (by kernel_rfl)) (by kernel_rfl) ⟨rfl, below_grown M.old⟩

end Go.Proofs.YtpfneekmbednoaaDoor
