/- The document: the digest of a text, the walk of Of. -/
import Derived.Test.YtghobmgdadpplaaDoorD10
namespace Go.Proofs.YtghobmgdadpplaaDoor
open Go.RowKit

def LenB (n : Nat) : List Int := [0, 0, 0, 0, 0, 0, 0, 0, cv .u8 (sr (um 8 (cv .u64 (n : Int))) 56), cv .u8 (sr (um 8 (cv .u64 (n : Int))) 48), cv .u8 (sr (um 8 (cv .u64 (n : Int))) 40), cv .u8 (sr (um 8 (cv .u64 (n : Int))) 32), cv .u8 (sr (um 8 (cv .u64 (n : Int))) 24), cv .u8 (sr (um 8 (cv .u64 (n : Int))) 16), cv .u8 (sr (um 8 (cv .u64 (n : Int))) 8), cv .u8 (sr (um 8 (cv .u64 (n : Int))) 0)]
/-- The text and what stands behind it. -/
def dl (s : ByteArray) : List Int := sb s ++ [128] ++ List.replicate ((239 - s.size % 128) % 128) 0 ++ LenB s.size
def pcs (l : List Int) : Nat → (Nat → Int)
  | 0 => HB
  | j + 1 => mixV (pcs l j) (fun i => l.getD (128 * j + i) 0)
def outL (h : Nat → Int) : Nat → List Int
  | 0 => []
  | j + 1 => outL h j ++ [cv .u8 (sr (h (j / 8)) (56 - 8 * (j % 8)))]
theorem outL_length (h : Nat → Int) : ∀ j, (outL h j).length = j
  | 0 => rfl
  | j + 1 => by
    unfold outL
    rw [List.length_append, outL_length h j]
    rfl
theorem outL_nn (h : Nat → Int) : ∀ j, ∀ x ∈ outL h j, 0 ≤ x ∧ x < 256
  | 0, x, hx => by simp [outL] at hx
  | j + 1, x, hx => by
    unfold outL at hx
    rcases List.mem_append.1 hx with hx | hx
    · exact outL_nn h j x hx
    · rw [List.mem_singleton.1 hx]
      exact cv8_nn _
theorem outL_step (h : Nat → Int) (j k : Nat) (hk : k < 8) : outL h (8 * j + k + 1) = outL h (8 * j + k) ++ [cv .u8 (sr (h j) (56 - 8 * k))] := by
  show outL h (8 * j + k) ++ _ = _
  rw [show (8 * j + k) / 8 = j by omega, show (8 * j + k) % 8 = k by omega]
theorem outL_hI (h : Nat → Int) : ∀ j, outL h (8 * j) = hI h j
  | 0 => rfl
  | j + 1 => by
    show outL h (8 * j + 7 + 1) = _
    rw [outL_step h j 7 (by omega), show 8 * j + 7 = 8 * j + 6 + 1 by rfl, outL_step h j 6 (by omega), show 8 * j + 6 = 8 * j + 5 + 1 by rfl, outL_step h j 5 (by omega), show 8 * j + 5 = 8 * j + 4 + 1 by rfl, outL_step h j 4 (by omega), show 8 * j + 4 = 8 * j + 3 + 1 by rfl, outL_step h j 3 (by omega), show 8 * j + 3 = 8 * j + 2 + 1 by rfl, outL_step h j 2 (by omega), show 8 * j + 2 = 8 * j + 1 + 1 by rfl, outL_step h j 1 (by omega), show 8 * j + 1 = 8 * j + 0 + 1 by rfl, outL_step h j 0 (by omega), Nat.add_zero, outL_hI h j]
    simp [hI]
def docV (s : ByteArray) : ByteArray := bs (outL (pcs (dl s) ((dl s).length / 128)) 64)
theorem vs8_app (l : List Int) (x : Int) : vs8 l ++ [.int .u8 x] = vs8 (l ++ [x]) := by simp [vs8]
theorem run_shrV {P : Program} {a : Act} {o : Oper} (t rt : TypeId) (x y : Operand) (ho : o.op = .binOp .shr t x y rt) (k : Int) (ky : IntKind) (m : Nat) (hx : a.eval x = .int .u64 k) (hy : a.eval y = .int ky (m : Int)) (_hm : m ≤ 64) (w : World) :
    (execOp a.eval o).run P w = .ok (.value (.int .u64 (sr k m))) w := by
  have hp : (0 : Int) ≤ 2 ^ m := Int.le_of_lt (Int.pow_pos (by decide))
  unfold execOp sr
  rw [Int.fdiv_eq_ediv_of_nonneg k hp]
  simp [ho, hx, hy, eqGuard, binOp]
theorem run_slS {P : Program} {a : Act} {o : Oper} (t elem : TypeId) (hu : P.underlying t = some (.slice elem)) (hs : (P.info? elem).map (·.size) = some 1) (x lo hi : Operand) (ho : o.op = .slice t x (some lo) (some hi) none) (g n cap : Nat) (hx : a.eval x = .slice (some ⟨g, 0, none⟩) n cap) (k k' : IntKind) (i j : Nat) (hl : a.eval lo = .int k (i : Int)) (hh : a.eval hi = .int k' (j : Int)) (hij : i < j) (hjc : j ≤ cap) (w : World) :
    (execOp a.eval o).run P w = .ok (.value (.slice (some ⟨g, i, none⟩) (j - i) (cap - i))) w := by
  cases hq : P.info? elem with
  | none => simp [hq] at hs
  | some u =>
    have hsz : u.size = 1 := by simpa [hq] using hs
    have hne : ¬ cap = i := by omega
    have h2 : (i : Int) ≤ (j : Int) := by omega
    have h3 : (j : Int) ≤ (cap : Int) := by omega
    unfold execOp
    simp [ho, hx, hl, hh, Instr.sliceAt, Instr.slice, run_underlying hu, Instr.sliceBounds, run_sliceBound, sizeOf, typeInfo, hq, hsz, add_at, hne, h2, h3]

theorem dl_length (s : ByteArray) : (dl s).length = s.size + 1 + (239 - s.size % 128) % 128 + 16 := by
  unfold dl LenB
  simp [sb_length]
  omega
theorem dl_len (s : ByteArray) : (dl s).length % 128 = 0 := by
  rw [dl_length]
  omega
theorem rem8 (n : Nat) : Int.tmod (n : Int) 8 = ((n % 8 : Nat) : Int) := by
  rw [Int.tmod_eq_emod_of_nonneg (by omega)]
  omega

set_option maxRecDepth 100000 in
set_option maxHeartbeats 4000000 in
theorem c_doc (s : ByteArray) (hs : s.size < 100000) (w : World) (hL : Laid w)  :
    Calls Tryd.prog 9 #[.string s] w fun r w' => r = .returned (.string (docV s)) ∧ Below w.heap.size w w' := by
  go_enter Tryd.func9, Tryd.ntmps9
  have M := Mem.start hL
  refine wp_seq ?_
  refine rg_lit ?_
  refine pl_val (want_no rfl) (some 2) rfl (.string ⟨#[]⟩) (fun _ => by kernel_rfl) ?_
  refine pl_nil ?_
  refine au_then ?_
  refine wp_seq ?_
  refine rg_lit ?_
  refine pl_val (want_no rfl) (some 10) rfl (.string s) (fun _ => by kernel_rfl) ?_
  refine pl_conv M (want_no rfl) (some 11) rfl _ rfl s (by kernel_rfl) ?_
  intro e0 c0 Y0 u1 hY0 M
  replace M : Mem ⟨w, none⟩ [⟨e0, Y0⟩] u1 := M
  refine pl_mk M (want_no rfl) (some 12) rfl (fun g1 => .slice (some ⟨g1, 0, none⟩) 1 1) (.cells (av 1 (fun _ => .int .u8 128)) 5) (fun _ => by kernel_rfl) ?_
  intro g1 u2 M
  replace M : Mem ⟨w, none⟩ [⟨e0, Y0⟩, ⟨g1, .cells (av 1 (fun _ => .int .u8 128)) 5⟩] u2 := M
  refine pl_app M (want_no rfl) (some 13) rfl 41 41 5 _ (.int .u8 0) Tryd.underlying41 info5_eq info5_z (by kernel_rfl) (by decide +kernel) rfl 0 e0 (s.size) c0 Y0 (vs8 (sb s)) rfl hY0 (by rw [vs8_length, sb_length]) (by omega) 1 g1 5 (.int .u8 128) rfl rfl (fun _ => by kernel_rfl) ?_
  intro e1 c1 Y1 u3 hY1 M
  rw [vs8_app] at hY1
  replace M : Mem ⟨w, none⟩ [⟨g1, .cells (av 1 (fun _ => .int .u8 128)) 5⟩, ⟨e1, Y1⟩] u3 := M
  refine pl_val (want_no rfl) (some 3) rfl (.slice (some ⟨e1, 0, none⟩) (s.size + 1) c1) (fun _ => by kernel_rfl) ?_
  refine pl_nil ?_
  refine au_then ?_
  refine wp_seq ?_
  refine wp_block ?_
  replace M := M.drop (L' := [⟨e1, Y1⟩]) (.cons _ (.cons_cons _ (.slnil)))
  refine au_loop (fun j a w' => ∃ (v1 : Nat → Value) (g cap : Nat) (Z : Obj), a = ⟨#[.string s, undef, .string ⟨#[]⟩, .slice (some ⟨g, 0, none⟩) (s.size + 1 + j) cap, undef, undef, undef, undef, undef, undef, .string s, .slice (some ⟨e0, 0, none⟩) s.size c0, .slice (some ⟨g1, 0, none⟩) 1 1, .slice (some ⟨e1, 0, none⟩) (s.size + 1) c1, v1 14, v1 15, v1 16, v1 17, v1 18, v1 19, v1 20, undef, undef, undef, undef, undef, undef, undef, undef, undef, undef, undef, undef, undef, undef, undef, undef, undef, undef, undef, undef, undef, undef, undef, undef, undef, undef, undef, undef, undef, undef, undef, undef, undef, undef, undef, undef, undef, undef, undef, undef, undef, undef, undef, undef, undef, undef, undef, undef, undef, undef, undef, undef, undef], []⟩ ∧ SB Z cap (vs8 (sb s ++ [128] ++ List.replicate j 0)) ∧ Mem ⟨w, none⟩ [⟨g, Z⟩] w') ((239 - s.size % 128) % 128) ⟨fun k_ => ([undef, undef, undef, undef, undef, undef, undef] : List Value).getD (k_ - 14) undef, e1, c1, Y1, by kernel_rfl, by rw [List.replicate_zero, List.append_nil]; exact hY1, M⟩ ?_ ?_
  · intro j a u0 hj hI
    obtain ⟨v1, g, cap, Z, rfl, hZ, M⟩ := hI
    refine wp_seq ?_
    refine wp_seq ?_
    refine rg_lit ?_
    refine pl_val (want_no rfl) (some 14) rfl (.slice (some ⟨g, 0, none⟩) (s.size + 1 + j) cap) (fun _ => by kernel_rfl) ?_
    refine pl_val (want_no rfl) (some 15) rfl (.int .i64 (((s.size + 1 + j) : Nat) : Int)) (fun _ => by kernel_rfl) ?_
    refine pl_val (want_no rfl) (some 16) rfl (.int .i64 (((s.size + 1 + j) % 128 : Nat) : Int)) (fun w => Eq.trans (b := .ok (.value (.int .i64 (Int.tmod ((s.size + 1 + j : Nat) : Int) 128))) w) (by kernel_rfl) (by rw [rem64])) ?_
    refine pl_val (want_no rfl) (some 17) rfl (.bool true) (fun w => Eq.trans (b := .ok (.value (.bool (!(decide ((((s.size + 1 + j) % 128 : Nat) : Int) = 112))))) w) (by kernel_rfl) (by rw [decide_eq_false (by omega)]; rfl)) ?_
    refine pl_nil ?_
    refine au_then ?_
    refine wp_cond_true (by kernel_rfl) ?_
    refine wp_skip ?_
    refine au_then ?_
    refine wp_block ?_
    refine rg_lit ?_
    refine pl_val (want_no rfl) (some 18) rfl (.slice (some ⟨g, 0, none⟩) (s.size + 1 + j) cap) (fun _ => by kernel_rfl) ?_
    refine pl_mk M (want_no rfl) (some 19) rfl (fun g2 => .slice (some ⟨g2, 0, none⟩) 1 1) (.cells (av 1 (fun _ => .int .u8 0)) 5) (fun _ => by kernel_rfl) ?_
    intro g2 u4 M
    replace M : Mem ⟨w, none⟩ [⟨g, Z⟩, ⟨g2, .cells (av 1 (fun _ => .int .u8 0)) 5⟩] u4 := M
    refine pl_app M (want_no rfl) (some 20) rfl 41 41 5 _ (.int .u8 0) Tryd.underlying41 info5_eq info5_z (by kernel_rfl) (by decide +kernel) rfl 0 g ((s.size + 1 + j)) cap Z (vs8 (sb s ++ [128] ++ List.replicate j 0)) rfl hZ (by rw [vs8_length]; simp [sb_length]; omega) (by omega) 1 g2 5 (.int .u8 0) rfl rfl (fun _ => by kernel_rfl) ?_
    intro e2 c2 Y2 u5 hY2 M
    rw [vs8_app] at hY2
    replace M : Mem ⟨w, none⟩ [⟨g2, .cells (av 1 (fun _ => .int .u8 0)) 5⟩, ⟨e2, Y2⟩] u5 := M
    refine pl_val (want_no rfl) (some 3) rfl (.slice (some ⟨e2, 0, none⟩) ((s.size + 1 + j) + 1) c2) (fun _ => by kernel_rfl) ?_
    refine pl_nil ?_
    refine au_block ?_
    refine au_then ?_
    replace hY2 : SB Y2 c2 (vs8 (sb s ++ [128] ++ List.replicate (j + 1) 0)) := by rw [List.replicate_succ', ← List.append_assoc]; exact hY2
    exact ⟨fun k_ => ([.slice (some ⟨g, 0, none⟩) (s.size + 1 + j) cap, .int .i64 (((s.size + 1 + j) : Nat) : Int), .int .i64 (((s.size + 1 + j) % 128 : Nat) : Int), .bool true, .slice (some ⟨g, 0, none⟩) (s.size + 1 + j) cap, .slice (some ⟨g2, 0, none⟩) 1 1, .slice (some ⟨e2, 0, none⟩) ((s.size + 1 + j) + 1) c2] : List Value).getD (k_ - 14) undef, e2, c2, Y2, by kernel_rfl, hY2, M.drop (.cons _ (.cons_cons _ .slnil))⟩
  · intro a u0 hI
    obtain ⟨v1, g, cap, Z, rfl, hZ, M⟩ := hI
    refine wp_seq ?_
    refine wp_seq ?_
    refine rg_lit ?_
    refine pl_val (want_no rfl) (some 14) rfl (.slice (some ⟨g, 0, none⟩) (s.size + 1 + ((239 - s.size % 128) % 128)) cap) (fun _ => by kernel_rfl) ?_
    refine pl_val (want_no rfl) (some 15) rfl (.int .i64 (((s.size + 1 + ((239 - s.size % 128) % 128)) : Nat) : Int)) (fun _ => by kernel_rfl) ?_
    refine pl_val (want_no rfl) (some 16) rfl (.int .i64 (((s.size + 1 + ((239 - s.size % 128) % 128)) % 128 : Nat) : Int)) (fun w => Eq.trans (b := .ok (.value (.int .i64 (Int.tmod ((s.size + 1 + ((239 - s.size % 128) % 128) : Nat) : Int) 128))) w) (by kernel_rfl) (by rw [rem64])) ?_
    refine pl_val (want_no rfl) (some 17) rfl (.bool false) (fun w => Eq.trans (b := .ok (.value (.bool (!(decide ((((s.size + 1 + ((239 - s.size % 128) % 128)) % 128 : Nat) : Int) = 112))))) w) (by kernel_rfl) (by rw [decide_eq_true (by omega)]; rfl)) ?_
    refine pl_nil ?_
    refine au_then ?_
    refine wp_cond_false (by kernel_rfl) ?_
    refine wp_exit ?_
    refine au_then_exit ?_
    refine au_then_exit ?_
    refine au_block_exit ?_
    refine au_then ?_
    refine wp_seq ?_
    refine wp_seq ?_
    refine rg_lit ?_
    refine pl_val (want_no rfl) (some 4) rfl (.int .i64 15) (fun _ => by kernel_rfl) ?_
    refine pl_nil ?_
    refine au_then ?_
    refine wp_block ?_
    refine wp_loop_rounds 17 ?_
    refine rounds_go ?_
    refine wp_seq ?_
    refine wp_seq ?_
    refine rg_lit ?_
    refine pl_val (want_no rfl) (some 21) rfl (.int .i64 15) (fun _ => by kernel_rfl) ?_
    refine pl_val (want_no rfl) (some 22) rfl (.bool true) (fun _ => by kernel_rfl) ?_
    refine pl_nil ?_
    refine au_then ?_
    refine wp_cond_true (by kernel_rfl) ?_
    refine wp_skip ?_
    refine au_then ?_
    refine wp_seq ?_
    refine wp_block ?_
    refine wp_seq ?_
    refine rg_lit ?_
    refine pl_val (want_no rfl) (some 5) rfl (.int .u64 0) (fun _ => by kernel_rfl) ?_
    refine pl_nil ?_
    refine au_then ?_
    refine wp_seq ?_
    refine wp_seq ?_
    refine rg_lit ?_
    refine pl_val (want_no rfl) (some 25) rfl (.int .i64 15) (fun _ => by kernel_rfl) ?_
    refine pl_val (want_no rfl) (some 26) rfl (.bool false) (fun _ => by kernel_rfl) ?_
    refine pl_nil ?_
    refine au_then ?_
    refine wp_cond_false (by kernel_rfl) ?_
    refine wp_skip ?_
    refine au_then ?_
    refine rg_lit ?_
    refine pl_val (want_no rfl) (some 35) rfl (.slice (some ⟨g, 0, none⟩) (s.size + 1 + ((239 - s.size % 128) % 128)) cap) (fun _ => by kernel_rfl) ?_
    refine pl_val (want_no rfl) (some 36) rfl (.int .u64 0) (fun _ => by kernel_rfl) ?_
    refine pl_val (want_no rfl) (some 37) rfl (.int .u8 0) (fun _ => by kernel_rfl) ?_
    refine pl_mk M (want_no rfl) (some 38) rfl (fun g3 => .slice (some ⟨g3, 0, none⟩) 1 1) (.cells (av 1 (fun _ => .int .u8 0)) 5) (fun _ => by kernel_rfl) ?_
    intro g3 u6 M
    replace M : Mem ⟨w, none⟩ [⟨g, Z⟩, ⟨g3, .cells (av 1 (fun _ => .int .u8 0)) 5⟩] u6 := M
    refine pl_app M (want_no rfl) (some 39) rfl 41 41 5 _ (.int .u8 0) Tryd.underlying41 info5_eq info5_z (by kernel_rfl) (by decide +kernel) rfl 0 g ((s.size + 1 + ((239 - s.size % 128) % 128))) cap Z (vs8 (sb s ++ [128] ++ List.replicate ((239 - s.size % 128) % 128) 0)) rfl hZ (by rw [vs8_length]; simp [sb_length]; omega) (by omega) 1 g3 5 (.int .u8 0) rfl rfl (fun _ => by kernel_rfl) ?_
    intro e3 c3 Y3 u7 hY3 M
    rw [vs8_app] at hY3
    replace M : Mem ⟨w, none⟩ [⟨g3, .cells (av 1 (fun _ => .int .u8 0)) 5⟩, ⟨e3, Y3⟩] u7 := M
    refine pl_val (want_no rfl) (some 3) rfl (.slice (some ⟨e3, 0, none⟩) ((s.size + 1 + ((239 - s.size % 128) % 128)) + 1) c3) (fun _ => by kernel_rfl) ?_
    refine pl_nil ?_
    refine au_block ?_
    refine au_then ?_
    refine rg_lit ?_
    refine pl_val (want_no rfl) (some 23) rfl (.int .i64 15) (fun _ => by kernel_rfl) ?_
    refine pl_val (want_no rfl) (some 24) rfl (.int .i64 14) (fun _ => by kernel_rfl) ?_
    refine pl_val (want_no rfl) (some 4) rfl (.int .i64 14) (fun _ => by kernel_rfl) ?_
    refine pl_nil ?_
    refine au_then ?_
    refine rounds_go ?_
    refine wp_seq ?_
    refine wp_seq ?_
    refine rg_lit ?_
    refine pl_val (want_no rfl) (some 21) rfl (.int .i64 14) (fun _ => by kernel_rfl) ?_
    refine pl_val (want_no rfl) (some 22) rfl (.bool true) (fun _ => by kernel_rfl) ?_
    refine pl_nil ?_
    refine au_then ?_
    refine wp_cond_true (by kernel_rfl) ?_
    refine wp_skip ?_
    refine au_then ?_
    refine wp_seq ?_
    refine wp_block ?_
    refine wp_seq ?_
    refine rg_lit ?_
    refine pl_val (want_no rfl) (some 5) rfl (.int .u64 0) (fun _ => by kernel_rfl) ?_
    refine pl_nil ?_
    refine au_then ?_
    refine wp_seq ?_
    refine wp_seq ?_
    refine rg_lit ?_
    refine pl_val (want_no rfl) (some 25) rfl (.int .i64 14) (fun _ => by kernel_rfl) ?_
    refine pl_val (want_no rfl) (some 26) rfl (.bool false) (fun _ => by kernel_rfl) ?_
    refine pl_nil ?_
    refine au_then ?_
    refine wp_cond_false (by kernel_rfl) ?_
    refine wp_skip ?_
    refine au_then ?_
    refine rg_lit ?_
    refine pl_val (want_no rfl) (some 35) rfl (.slice (some ⟨e3, 0, none⟩) ((s.size + 1 + ((239 - s.size % 128) % 128)) + 1) c3) (fun _ => by kernel_rfl) ?_
    refine pl_val (want_no rfl) (some 36) rfl (.int .u64 0) (fun _ => by kernel_rfl) ?_
    refine pl_val (want_no rfl) (some 37) rfl (.int .u8 0) (fun _ => by kernel_rfl) ?_
    refine pl_mk M (want_no rfl) (some 38) rfl (fun g4 => .slice (some ⟨g4, 0, none⟩) 1 1) (.cells (av 1 (fun _ => .int .u8 0)) 5) (fun _ => by kernel_rfl) ?_
    intro g4 u8 M
    replace M : Mem ⟨w, none⟩ [⟨g3, .cells (av 1 (fun _ => .int .u8 0)) 5⟩, ⟨e3, Y3⟩, ⟨g4, .cells (av 1 (fun _ => .int .u8 0)) 5⟩] u8 := M
    refine pl_app M (want_no rfl) (some 39) rfl 41 41 5 _ (.int .u8 0) Tryd.underlying41 info5_eq info5_z (by kernel_rfl) (by decide +kernel) rfl 1 e3 (((s.size + 1 + ((239 - s.size % 128) % 128)) + 1)) c3 Y3 (vs8 (sb s ++ [128] ++ List.replicate ((239 - s.size % 128) % 128) 0 ++ [0])) rfl hY3 (by rw [vs8_length]; simp [sb_length]; omega) (by omega) 2 g4 5 (.int .u8 0) rfl rfl (fun _ => by kernel_rfl) ?_
    intro e4 c4 Y4 u9 hY4 M
    rw [vs8_app] at hY4
    replace M : Mem ⟨w, none⟩ [⟨g3, .cells (av 1 (fun _ => .int .u8 0)) 5⟩, ⟨g4, .cells (av 1 (fun _ => .int .u8 0)) 5⟩, ⟨e4, Y4⟩] u9 := M
    refine pl_val (want_no rfl) (some 3) rfl (.slice (some ⟨e4, 0, none⟩) (((s.size + 1 + ((239 - s.size % 128) % 128)) + 1) + 1) c4) (fun _ => by kernel_rfl) ?_
    refine pl_nil ?_
    refine au_block ?_
    refine au_then ?_
    refine rg_lit ?_
    refine pl_val (want_no rfl) (some 23) rfl (.int .i64 14) (fun _ => by kernel_rfl) ?_
    refine pl_val (want_no rfl) (some 24) rfl (.int .i64 13) (fun _ => by kernel_rfl) ?_
    refine pl_val (want_no rfl) (some 4) rfl (.int .i64 13) (fun _ => by kernel_rfl) ?_
    refine pl_nil ?_
    refine au_then ?_
    refine rounds_go ?_
    refine wp_seq ?_
    refine wp_seq ?_
    refine rg_lit ?_
    refine pl_val (want_no rfl) (some 21) rfl (.int .i64 13) (fun _ => by kernel_rfl) ?_
    refine pl_val (want_no rfl) (some 22) rfl (.bool true) (fun _ => by kernel_rfl) ?_
    refine pl_nil ?_
    refine au_then ?_
    refine wp_cond_true (by kernel_rfl) ?_
    refine wp_skip ?_
    refine au_then ?_
    refine wp_seq ?_
    refine wp_block ?_
    refine wp_seq ?_
    refine rg_lit ?_
    refine pl_val (want_no rfl) (some 5) rfl (.int .u64 0) (fun _ => by kernel_rfl) ?_
    refine pl_nil ?_
    refine au_then ?_
    refine wp_seq ?_
    refine wp_seq ?_
    refine rg_lit ?_
    refine pl_val (want_no rfl) (some 25) rfl (.int .i64 13) (fun _ => by kernel_rfl) ?_
    refine pl_val (want_no rfl) (some 26) rfl (.bool false) (fun _ => by kernel_rfl) ?_
    refine pl_nil ?_
    refine au_then ?_
    refine wp_cond_false (by kernel_rfl) ?_
    refine wp_skip ?_
    refine au_then ?_
    refine rg_lit ?_
    refine pl_val (want_no rfl) (some 35) rfl (.slice (some ⟨e4, 0, none⟩) (((s.size + 1 + ((239 - s.size % 128) % 128)) + 1) + 1) c4) (fun _ => by kernel_rfl) ?_
    refine pl_val (want_no rfl) (some 36) rfl (.int .u64 0) (fun _ => by kernel_rfl) ?_
    refine pl_val (want_no rfl) (some 37) rfl (.int .u8 0) (fun _ => by kernel_rfl) ?_
    refine pl_mk M (want_no rfl) (some 38) rfl (fun g5 => .slice (some ⟨g5, 0, none⟩) 1 1) (.cells (av 1 (fun _ => .int .u8 0)) 5) (fun _ => by kernel_rfl) ?_
    intro g5 u10 M
    replace M : Mem ⟨w, none⟩ [⟨g3, .cells (av 1 (fun _ => .int .u8 0)) 5⟩, ⟨g4, .cells (av 1 (fun _ => .int .u8 0)) 5⟩, ⟨e4, Y4⟩, ⟨g5, .cells (av 1 (fun _ => .int .u8 0)) 5⟩] u10 := M
    refine pl_app M (want_no rfl) (some 39) rfl 41 41 5 _ (.int .u8 0) Tryd.underlying41 info5_eq info5_z (by kernel_rfl) (by decide +kernel) rfl 2 e4 ((((s.size + 1 + ((239 - s.size % 128) % 128)) + 1) + 1)) c4 Y4 (vs8 (sb s ++ [128] ++ List.replicate ((239 - s.size % 128) % 128) 0 ++ [0] ++ [0])) rfl hY4 (by rw [vs8_length]; simp [sb_length]; omega) (by omega) 3 g5 5 (.int .u8 0) rfl rfl (fun _ => by kernel_rfl) ?_
    intro e5 c5 Y5 u11 hY5 M
    rw [vs8_app] at hY5
    replace M : Mem ⟨w, none⟩ [⟨g3, .cells (av 1 (fun _ => .int .u8 0)) 5⟩, ⟨g4, .cells (av 1 (fun _ => .int .u8 0)) 5⟩, ⟨g5, .cells (av 1 (fun _ => .int .u8 0)) 5⟩, ⟨e5, Y5⟩] u11 := M
    refine pl_val (want_no rfl) (some 3) rfl (.slice (some ⟨e5, 0, none⟩) ((((s.size + 1 + ((239 - s.size % 128) % 128)) + 1) + 1) + 1) c5) (fun _ => by kernel_rfl) ?_
    refine pl_nil ?_
    refine au_block ?_
    refine au_then ?_
    refine rg_lit ?_
    refine pl_val (want_no rfl) (some 23) rfl (.int .i64 13) (fun _ => by kernel_rfl) ?_
    refine pl_val (want_no rfl) (some 24) rfl (.int .i64 12) (fun _ => by kernel_rfl) ?_
    refine pl_val (want_no rfl) (some 4) rfl (.int .i64 12) (fun _ => by kernel_rfl) ?_
    refine pl_nil ?_
    refine au_then ?_
    refine rounds_go ?_
    refine wp_seq ?_
    refine wp_seq ?_
    refine rg_lit ?_
    refine pl_val (want_no rfl) (some 21) rfl (.int .i64 12) (fun _ => by kernel_rfl) ?_
    refine pl_val (want_no rfl) (some 22) rfl (.bool true) (fun _ => by kernel_rfl) ?_
    refine pl_nil ?_
    refine au_then ?_
    refine wp_cond_true (by kernel_rfl) ?_
    refine wp_skip ?_
    refine au_then ?_
    refine wp_seq ?_
    refine wp_block ?_
    refine wp_seq ?_
    refine rg_lit ?_
    refine pl_val (want_no rfl) (some 5) rfl (.int .u64 0) (fun _ => by kernel_rfl) ?_
    refine pl_nil ?_
    refine au_then ?_
    refine wp_seq ?_
    refine wp_seq ?_
    refine rg_lit ?_
    refine pl_val (want_no rfl) (some 25) rfl (.int .i64 12) (fun _ => by kernel_rfl) ?_
    refine pl_val (want_no rfl) (some 26) rfl (.bool false) (fun _ => by kernel_rfl) ?_
    refine pl_nil ?_
    refine au_then ?_
    refine wp_cond_false (by kernel_rfl) ?_
    refine wp_skip ?_
    refine au_then ?_
    refine rg_lit ?_
    refine pl_val (want_no rfl) (some 35) rfl (.slice (some ⟨e5, 0, none⟩) ((((s.size + 1 + ((239 - s.size % 128) % 128)) + 1) + 1) + 1) c5) (fun _ => by kernel_rfl) ?_
    refine pl_val (want_no rfl) (some 36) rfl (.int .u64 0) (fun _ => by kernel_rfl) ?_
    refine pl_val (want_no rfl) (some 37) rfl (.int .u8 0) (fun _ => by kernel_rfl) ?_
    refine pl_mk M (want_no rfl) (some 38) rfl (fun g6 => .slice (some ⟨g6, 0, none⟩) 1 1) (.cells (av 1 (fun _ => .int .u8 0)) 5) (fun _ => by kernel_rfl) ?_
    intro g6 u12 M
    replace M : Mem ⟨w, none⟩ [⟨g3, .cells (av 1 (fun _ => .int .u8 0)) 5⟩, ⟨g4, .cells (av 1 (fun _ => .int .u8 0)) 5⟩, ⟨g5, .cells (av 1 (fun _ => .int .u8 0)) 5⟩, ⟨e5, Y5⟩, ⟨g6, .cells (av 1 (fun _ => .int .u8 0)) 5⟩] u12 := M
    refine pl_app M (want_no rfl) (some 39) rfl 41 41 5 _ (.int .u8 0) Tryd.underlying41 info5_eq info5_z (by kernel_rfl) (by decide +kernel) rfl 3 e5 (((((s.size + 1 + ((239 - s.size % 128) % 128)) + 1) + 1) + 1)) c5 Y5 (vs8 (sb s ++ [128] ++ List.replicate ((239 - s.size % 128) % 128) 0 ++ [0] ++ [0] ++ [0])) rfl hY5 (by rw [vs8_length]; simp [sb_length]; omega) (by omega) 4 g6 5 (.int .u8 0) rfl rfl (fun _ => by kernel_rfl) ?_
    intro e6 c6 Y6 u13 hY6 M
    rw [vs8_app] at hY6
    replace M : Mem ⟨w, none⟩ [⟨g3, .cells (av 1 (fun _ => .int .u8 0)) 5⟩, ⟨g4, .cells (av 1 (fun _ => .int .u8 0)) 5⟩, ⟨g5, .cells (av 1 (fun _ => .int .u8 0)) 5⟩, ⟨g6, .cells (av 1 (fun _ => .int .u8 0)) 5⟩, ⟨e6, Y6⟩] u13 := M
    refine pl_val (want_no rfl) (some 3) rfl (.slice (some ⟨e6, 0, none⟩) (((((s.size + 1 + ((239 - s.size % 128) % 128)) + 1) + 1) + 1) + 1) c6) (fun _ => by kernel_rfl) ?_
    refine pl_nil ?_
    refine au_block ?_
    refine au_then ?_
    refine rg_lit ?_
    refine pl_val (want_no rfl) (some 23) rfl (.int .i64 12) (fun _ => by kernel_rfl) ?_
    refine pl_val (want_no rfl) (some 24) rfl (.int .i64 11) (fun _ => by kernel_rfl) ?_
    refine pl_val (want_no rfl) (some 4) rfl (.int .i64 11) (fun _ => by kernel_rfl) ?_
    refine pl_nil ?_
    refine au_then ?_
    refine rounds_go ?_
    refine wp_seq ?_
    refine wp_seq ?_
    refine rg_lit ?_
    refine pl_val (want_no rfl) (some 21) rfl (.int .i64 11) (fun _ => by kernel_rfl) ?_
    refine pl_val (want_no rfl) (some 22) rfl (.bool true) (fun _ => by kernel_rfl) ?_
    refine pl_nil ?_
    refine au_then ?_
    refine wp_cond_true (by kernel_rfl) ?_
    refine wp_skip ?_
    refine au_then ?_
    refine wp_seq ?_
    refine wp_block ?_
    refine wp_seq ?_
    refine rg_lit ?_
    refine pl_val (want_no rfl) (some 5) rfl (.int .u64 0) (fun _ => by kernel_rfl) ?_
    refine pl_nil ?_
    refine au_then ?_
    refine wp_seq ?_
    refine wp_seq ?_
    refine rg_lit ?_
    refine pl_val (want_no rfl) (some 25) rfl (.int .i64 11) (fun _ => by kernel_rfl) ?_
    refine pl_val (want_no rfl) (some 26) rfl (.bool false) (fun _ => by kernel_rfl) ?_
    refine pl_nil ?_
    refine au_then ?_
    refine wp_cond_false (by kernel_rfl) ?_
    refine wp_skip ?_
    refine au_then ?_
    refine rg_lit ?_
    refine pl_val (want_no rfl) (some 35) rfl (.slice (some ⟨e6, 0, none⟩) (((((s.size + 1 + ((239 - s.size % 128) % 128)) + 1) + 1) + 1) + 1) c6) (fun _ => by kernel_rfl) ?_
    refine pl_val (want_no rfl) (some 36) rfl (.int .u64 0) (fun _ => by kernel_rfl) ?_
    refine pl_val (want_no rfl) (some 37) rfl (.int .u8 0) (fun _ => by kernel_rfl) ?_
    refine pl_mk M (want_no rfl) (some 38) rfl (fun g7 => .slice (some ⟨g7, 0, none⟩) 1 1) (.cells (av 1 (fun _ => .int .u8 0)) 5) (fun _ => by kernel_rfl) ?_
    intro g7 u14 M
    replace M : Mem ⟨w, none⟩ [⟨g3, .cells (av 1 (fun _ => .int .u8 0)) 5⟩, ⟨g4, .cells (av 1 (fun _ => .int .u8 0)) 5⟩, ⟨g5, .cells (av 1 (fun _ => .int .u8 0)) 5⟩, ⟨g6, .cells (av 1 (fun _ => .int .u8 0)) 5⟩, ⟨e6, Y6⟩, ⟨g7, .cells (av 1 (fun _ => .int .u8 0)) 5⟩] u14 := M
    refine pl_app M (want_no rfl) (some 39) rfl 41 41 5 _ (.int .u8 0) Tryd.underlying41 info5_eq info5_z (by kernel_rfl) (by decide +kernel) rfl 4 e6 ((((((s.size + 1 + ((239 - s.size % 128) % 128)) + 1) + 1) + 1) + 1)) c6 Y6 (vs8 (sb s ++ [128] ++ List.replicate ((239 - s.size % 128) % 128) 0 ++ [0] ++ [0] ++ [0] ++ [0])) rfl hY6 (by rw [vs8_length]; simp [sb_length]; omega) (by omega) 5 g7 5 (.int .u8 0) rfl rfl (fun _ => by kernel_rfl) ?_
    intro e7 c7 Y7 u15 hY7 M
    rw [vs8_app] at hY7
    replace M : Mem ⟨w, none⟩ [⟨g3, .cells (av 1 (fun _ => .int .u8 0)) 5⟩, ⟨g4, .cells (av 1 (fun _ => .int .u8 0)) 5⟩, ⟨g5, .cells (av 1 (fun _ => .int .u8 0)) 5⟩, ⟨g6, .cells (av 1 (fun _ => .int .u8 0)) 5⟩, ⟨g7, .cells (av 1 (fun _ => .int .u8 0)) 5⟩, ⟨e7, Y7⟩] u15 := M
    refine pl_val (want_no rfl) (some 3) rfl (.slice (some ⟨e7, 0, none⟩) ((((((s.size + 1 + ((239 - s.size % 128) % 128)) + 1) + 1) + 1) + 1) + 1) c7) (fun _ => by kernel_rfl) ?_
    refine pl_nil ?_
    refine au_block ?_
    refine au_then ?_
    refine rg_lit ?_
    refine pl_val (want_no rfl) (some 23) rfl (.int .i64 11) (fun _ => by kernel_rfl) ?_
    refine pl_val (want_no rfl) (some 24) rfl (.int .i64 10) (fun _ => by kernel_rfl) ?_
    refine pl_val (want_no rfl) (some 4) rfl (.int .i64 10) (fun _ => by kernel_rfl) ?_
    refine pl_nil ?_
    refine au_then ?_
    refine rounds_go ?_
    refine wp_seq ?_
    refine wp_seq ?_
    refine rg_lit ?_
    refine pl_val (want_no rfl) (some 21) rfl (.int .i64 10) (fun _ => by kernel_rfl) ?_
    refine pl_val (want_no rfl) (some 22) rfl (.bool true) (fun _ => by kernel_rfl) ?_
    refine pl_nil ?_
    refine au_then ?_
    refine wp_cond_true (by kernel_rfl) ?_
    refine wp_skip ?_
    refine au_then ?_
    refine wp_seq ?_
    refine wp_block ?_
    refine wp_seq ?_
    refine rg_lit ?_
    refine pl_val (want_no rfl) (some 5) rfl (.int .u64 0) (fun _ => by kernel_rfl) ?_
    refine pl_nil ?_
    refine au_then ?_
    refine wp_seq ?_
    refine wp_seq ?_
    refine rg_lit ?_
    refine pl_val (want_no rfl) (some 25) rfl (.int .i64 10) (fun _ => by kernel_rfl) ?_
    refine pl_val (want_no rfl) (some 26) rfl (.bool false) (fun _ => by kernel_rfl) ?_
    refine pl_nil ?_
    refine au_then ?_
    refine wp_cond_false (by kernel_rfl) ?_
    refine wp_skip ?_
    refine au_then ?_
    refine rg_lit ?_
    refine pl_val (want_no rfl) (some 35) rfl (.slice (some ⟨e7, 0, none⟩) ((((((s.size + 1 + ((239 - s.size % 128) % 128)) + 1) + 1) + 1) + 1) + 1) c7) (fun _ => by kernel_rfl) ?_
    refine pl_val (want_no rfl) (some 36) rfl (.int .u64 0) (fun _ => by kernel_rfl) ?_
    refine pl_val (want_no rfl) (some 37) rfl (.int .u8 0) (fun _ => by kernel_rfl) ?_
    refine pl_mk M (want_no rfl) (some 38) rfl (fun g8 => .slice (some ⟨g8, 0, none⟩) 1 1) (.cells (av 1 (fun _ => .int .u8 0)) 5) (fun _ => by kernel_rfl) ?_
    intro g8 u16 M
    replace M : Mem ⟨w, none⟩ [⟨g3, .cells (av 1 (fun _ => .int .u8 0)) 5⟩, ⟨g4, .cells (av 1 (fun _ => .int .u8 0)) 5⟩, ⟨g5, .cells (av 1 (fun _ => .int .u8 0)) 5⟩, ⟨g6, .cells (av 1 (fun _ => .int .u8 0)) 5⟩, ⟨g7, .cells (av 1 (fun _ => .int .u8 0)) 5⟩, ⟨e7, Y7⟩, ⟨g8, .cells (av 1 (fun _ => .int .u8 0)) 5⟩] u16 := M
    refine pl_app M (want_no rfl) (some 39) rfl 41 41 5 _ (.int .u8 0) Tryd.underlying41 info5_eq info5_z (by kernel_rfl) (by decide +kernel) rfl 5 e7 (((((((s.size + 1 + ((239 - s.size % 128) % 128)) + 1) + 1) + 1) + 1) + 1)) c7 Y7 (vs8 (sb s ++ [128] ++ List.replicate ((239 - s.size % 128) % 128) 0 ++ [0] ++ [0] ++ [0] ++ [0] ++ [0])) rfl hY7 (by rw [vs8_length]; simp [sb_length]; omega) (by omega) 6 g8 5 (.int .u8 0) rfl rfl (fun _ => by kernel_rfl) ?_
    intro e8 c8 Y8 u17 hY8 M
    rw [vs8_app] at hY8
    replace M : Mem ⟨w, none⟩ [⟨g3, .cells (av 1 (fun _ => .int .u8 0)) 5⟩, ⟨g4, .cells (av 1 (fun _ => .int .u8 0)) 5⟩, ⟨g5, .cells (av 1 (fun _ => .int .u8 0)) 5⟩, ⟨g6, .cells (av 1 (fun _ => .int .u8 0)) 5⟩, ⟨g7, .cells (av 1 (fun _ => .int .u8 0)) 5⟩, ⟨g8, .cells (av 1 (fun _ => .int .u8 0)) 5⟩, ⟨e8, Y8⟩] u17 := M
    refine pl_val (want_no rfl) (some 3) rfl (.slice (some ⟨e8, 0, none⟩) (((((((s.size + 1 + ((239 - s.size % 128) % 128)) + 1) + 1) + 1) + 1) + 1) + 1) c8) (fun _ => by kernel_rfl) ?_
    refine pl_nil ?_
    refine au_block ?_
    refine au_then ?_
    refine rg_lit ?_
    refine pl_val (want_no rfl) (some 23) rfl (.int .i64 10) (fun _ => by kernel_rfl) ?_
    refine pl_val (want_no rfl) (some 24) rfl (.int .i64 9) (fun _ => by kernel_rfl) ?_
    refine pl_val (want_no rfl) (some 4) rfl (.int .i64 9) (fun _ => by kernel_rfl) ?_
    refine pl_nil ?_
    refine au_then ?_
    refine rounds_go ?_
    refine wp_seq ?_
    refine wp_seq ?_
    refine rg_lit ?_
    refine pl_val (want_no rfl) (some 21) rfl (.int .i64 9) (fun _ => by kernel_rfl) ?_
    refine pl_val (want_no rfl) (some 22) rfl (.bool true) (fun _ => by kernel_rfl) ?_
    refine pl_nil ?_
    refine au_then ?_
    refine wp_cond_true (by kernel_rfl) ?_
    refine wp_skip ?_
    refine au_then ?_
    refine wp_seq ?_
    refine wp_block ?_
    refine wp_seq ?_
    refine rg_lit ?_
    refine pl_val (want_no rfl) (some 5) rfl (.int .u64 0) (fun _ => by kernel_rfl) ?_
    refine pl_nil ?_
    refine au_then ?_
    refine wp_seq ?_
    refine wp_seq ?_
    refine rg_lit ?_
    refine pl_val (want_no rfl) (some 25) rfl (.int .i64 9) (fun _ => by kernel_rfl) ?_
    refine pl_val (want_no rfl) (some 26) rfl (.bool false) (fun _ => by kernel_rfl) ?_
    refine pl_nil ?_
    refine au_then ?_
    refine wp_cond_false (by kernel_rfl) ?_
    refine wp_skip ?_
    refine au_then ?_
    refine rg_lit ?_
    refine pl_val (want_no rfl) (some 35) rfl (.slice (some ⟨e8, 0, none⟩) (((((((s.size + 1 + ((239 - s.size % 128) % 128)) + 1) + 1) + 1) + 1) + 1) + 1) c8) (fun _ => by kernel_rfl) ?_
    refine pl_val (want_no rfl) (some 36) rfl (.int .u64 0) (fun _ => by kernel_rfl) ?_
    refine pl_val (want_no rfl) (some 37) rfl (.int .u8 0) (fun _ => by kernel_rfl) ?_
    refine pl_mk M (want_no rfl) (some 38) rfl (fun g9 => .slice (some ⟨g9, 0, none⟩) 1 1) (.cells (av 1 (fun _ => .int .u8 0)) 5) (fun _ => by kernel_rfl) ?_
    intro g9 u18 M
    replace M : Mem ⟨w, none⟩ [⟨g3, .cells (av 1 (fun _ => .int .u8 0)) 5⟩, ⟨g4, .cells (av 1 (fun _ => .int .u8 0)) 5⟩, ⟨g5, .cells (av 1 (fun _ => .int .u8 0)) 5⟩, ⟨g6, .cells (av 1 (fun _ => .int .u8 0)) 5⟩, ⟨g7, .cells (av 1 (fun _ => .int .u8 0)) 5⟩, ⟨g8, .cells (av 1 (fun _ => .int .u8 0)) 5⟩, ⟨e8, Y8⟩, ⟨g9, .cells (av 1 (fun _ => .int .u8 0)) 5⟩] u18 := M
    refine pl_app M (want_no rfl) (some 39) rfl 41 41 5 _ (.int .u8 0) Tryd.underlying41 info5_eq info5_z (by kernel_rfl) (by decide +kernel) rfl 6 e8 ((((((((s.size + 1 + ((239 - s.size % 128) % 128)) + 1) + 1) + 1) + 1) + 1) + 1)) c8 Y8 (vs8 (sb s ++ [128] ++ List.replicate ((239 - s.size % 128) % 128) 0 ++ [0] ++ [0] ++ [0] ++ [0] ++ [0] ++ [0])) rfl hY8 (by rw [vs8_length]; simp [sb_length]; omega) (by omega) 7 g9 5 (.int .u8 0) rfl rfl (fun _ => by kernel_rfl) ?_
    intro e9 c9 Y9 u19 hY9 M
    rw [vs8_app] at hY9
    replace M : Mem ⟨w, none⟩ [⟨g3, .cells (av 1 (fun _ => .int .u8 0)) 5⟩, ⟨g4, .cells (av 1 (fun _ => .int .u8 0)) 5⟩, ⟨g5, .cells (av 1 (fun _ => .int .u8 0)) 5⟩, ⟨g6, .cells (av 1 (fun _ => .int .u8 0)) 5⟩, ⟨g7, .cells (av 1 (fun _ => .int .u8 0)) 5⟩, ⟨g8, .cells (av 1 (fun _ => .int .u8 0)) 5⟩, ⟨g9, .cells (av 1 (fun _ => .int .u8 0)) 5⟩, ⟨e9, Y9⟩] u19 := M
    refine pl_val (want_no rfl) (some 3) rfl (.slice (some ⟨e9, 0, none⟩) ((((((((s.size + 1 + ((239 - s.size % 128) % 128)) + 1) + 1) + 1) + 1) + 1) + 1) + 1) c9) (fun _ => by kernel_rfl) ?_
    refine pl_nil ?_
    refine au_block ?_
    refine au_then ?_
    refine rg_lit ?_
    refine pl_val (want_no rfl) (some 23) rfl (.int .i64 9) (fun _ => by kernel_rfl) ?_
    refine pl_val (want_no rfl) (some 24) rfl (.int .i64 8) (fun _ => by kernel_rfl) ?_
    refine pl_val (want_no rfl) (some 4) rfl (.int .i64 8) (fun _ => by kernel_rfl) ?_
    refine pl_nil ?_
    refine au_then ?_
    refine rounds_go ?_
    refine wp_seq ?_
    refine wp_seq ?_
    refine rg_lit ?_
    refine pl_val (want_no rfl) (some 21) rfl (.int .i64 8) (fun _ => by kernel_rfl) ?_
    refine pl_val (want_no rfl) (some 22) rfl (.bool true) (fun _ => by kernel_rfl) ?_
    refine pl_nil ?_
    refine au_then ?_
    refine wp_cond_true (by kernel_rfl) ?_
    refine wp_skip ?_
    refine au_then ?_
    refine wp_seq ?_
    refine wp_block ?_
    refine wp_seq ?_
    refine rg_lit ?_
    refine pl_val (want_no rfl) (some 5) rfl (.int .u64 0) (fun _ => by kernel_rfl) ?_
    refine pl_nil ?_
    refine au_then ?_
    refine wp_seq ?_
    refine wp_seq ?_
    refine rg_lit ?_
    refine pl_val (want_no rfl) (some 25) rfl (.int .i64 8) (fun _ => by kernel_rfl) ?_
    refine pl_val (want_no rfl) (some 26) rfl (.bool false) (fun _ => by kernel_rfl) ?_
    refine pl_nil ?_
    refine au_then ?_
    refine wp_cond_false (by kernel_rfl) ?_
    refine wp_skip ?_
    refine au_then ?_
    refine rg_lit ?_
    refine pl_val (want_no rfl) (some 35) rfl (.slice (some ⟨e9, 0, none⟩) ((((((((s.size + 1 + ((239 - s.size % 128) % 128)) + 1) + 1) + 1) + 1) + 1) + 1) + 1) c9) (fun _ => by kernel_rfl) ?_
    refine pl_val (want_no rfl) (some 36) rfl (.int .u64 0) (fun _ => by kernel_rfl) ?_
    refine pl_val (want_no rfl) (some 37) rfl (.int .u8 0) (fun _ => by kernel_rfl) ?_
    refine pl_mk M (want_no rfl) (some 38) rfl (fun g10 => .slice (some ⟨g10, 0, none⟩) 1 1) (.cells (av 1 (fun _ => .int .u8 0)) 5) (fun _ => by kernel_rfl) ?_
    intro g10 u20 M
    replace M : Mem ⟨w, none⟩ [⟨g3, .cells (av 1 (fun _ => .int .u8 0)) 5⟩, ⟨g4, .cells (av 1 (fun _ => .int .u8 0)) 5⟩, ⟨g5, .cells (av 1 (fun _ => .int .u8 0)) 5⟩, ⟨g6, .cells (av 1 (fun _ => .int .u8 0)) 5⟩, ⟨g7, .cells (av 1 (fun _ => .int .u8 0)) 5⟩, ⟨g8, .cells (av 1 (fun _ => .int .u8 0)) 5⟩, ⟨g9, .cells (av 1 (fun _ => .int .u8 0)) 5⟩, ⟨e9, Y9⟩, ⟨g10, .cells (av 1 (fun _ => .int .u8 0)) 5⟩] u20 := M
    refine pl_app M (want_no rfl) (some 39) rfl 41 41 5 _ (.int .u8 0) Tryd.underlying41 info5_eq info5_z (by kernel_rfl) (by decide +kernel) rfl 7 e9 (((((((((s.size + 1 + ((239 - s.size % 128) % 128)) + 1) + 1) + 1) + 1) + 1) + 1) + 1)) c9 Y9 (vs8 (sb s ++ [128] ++ List.replicate ((239 - s.size % 128) % 128) 0 ++ [0] ++ [0] ++ [0] ++ [0] ++ [0] ++ [0] ++ [0])) rfl hY9 (by rw [vs8_length]; simp [sb_length]; omega) (by omega) 8 g10 5 (.int .u8 0) rfl rfl (fun _ => by kernel_rfl) ?_
    intro e10 c10 Y10 u21 hY10 M
    rw [vs8_app] at hY10
    replace M : Mem ⟨w, none⟩ [⟨g3, .cells (av 1 (fun _ => .int .u8 0)) 5⟩, ⟨g4, .cells (av 1 (fun _ => .int .u8 0)) 5⟩, ⟨g5, .cells (av 1 (fun _ => .int .u8 0)) 5⟩, ⟨g6, .cells (av 1 (fun _ => .int .u8 0)) 5⟩, ⟨g7, .cells (av 1 (fun _ => .int .u8 0)) 5⟩, ⟨g8, .cells (av 1 (fun _ => .int .u8 0)) 5⟩, ⟨g9, .cells (av 1 (fun _ => .int .u8 0)) 5⟩, ⟨g10, .cells (av 1 (fun _ => .int .u8 0)) 5⟩, ⟨e10, Y10⟩] u21 := M
    refine pl_val (want_no rfl) (some 3) rfl (.slice (some ⟨e10, 0, none⟩) (((((((((s.size + 1 + ((239 - s.size % 128) % 128)) + 1) + 1) + 1) + 1) + 1) + 1) + 1) + 1) c10) (fun _ => by kernel_rfl) ?_
    refine pl_nil ?_
    refine au_block ?_
    refine au_then ?_
    refine rg_lit ?_
    refine pl_val (want_no rfl) (some 23) rfl (.int .i64 8) (fun _ => by kernel_rfl) ?_
    refine pl_val (want_no rfl) (some 24) rfl (.int .i64 7) (fun _ => by kernel_rfl) ?_
    refine pl_val (want_no rfl) (some 4) rfl (.int .i64 7) (fun _ => by kernel_rfl) ?_
    refine pl_nil ?_
    refine au_then ?_
    refine rounds_go ?_
    refine wp_seq ?_
    refine wp_seq ?_
    refine rg_lit ?_
    refine pl_val (want_no rfl) (some 21) rfl (.int .i64 7) (fun _ => by kernel_rfl) ?_
    refine pl_val (want_no rfl) (some 22) rfl (.bool true) (fun _ => by kernel_rfl) ?_
    refine pl_nil ?_
    refine au_then ?_
    refine wp_cond_true (by kernel_rfl) ?_
    refine wp_skip ?_
    refine au_then ?_
    refine wp_seq ?_
    refine wp_block ?_
    refine wp_seq ?_
    refine rg_lit ?_
    refine pl_val (want_no rfl) (some 5) rfl (.int .u64 0) (fun _ => by kernel_rfl) ?_
    refine pl_nil ?_
    refine au_then ?_
    refine wp_seq ?_
    refine wp_seq ?_
    refine rg_lit ?_
    refine pl_val (want_no rfl) (some 25) rfl (.int .i64 7) (fun _ => by kernel_rfl) ?_
    refine pl_val (want_no rfl) (some 26) rfl (.bool true) (fun _ => by kernel_rfl) ?_
    refine pl_nil ?_
    refine au_then ?_
    refine wp_cond_true (by kernel_rfl) ?_
    refine rg_lit ?_
    refine pl_val (want_no rfl) (some 27) rfl (.string s) (fun _ => by kernel_rfl) ?_
    refine pl_val (want_no rfl) (some 28) rfl (.int .i64 (s.size : Int)) (fun _ => by kernel_rfl) ?_
    refine pl_val (want_no rfl) (some 29) rfl (.int .u64 (cv .u64 (s.size : Int))) (fun _ => by kernel_rfl) ?_
    refine pl_val (want_no rfl) (some 30) rfl (.int .u64 (um 8 (cv .u64 (s.size : Int)))) (fun _ => by kernel_rfl) ?_
    refine pl_val (want_no rfl) (some 31) rfl (.int .i64 7) (fun _ => by kernel_rfl) ?_
    refine pl_val (want_no rfl) (some 32) rfl (.int .i64 56) (fun _ => by kernel_rfl) ?_
    refine pl_val (want_no rfl) (some 33) rfl (.int .u64 56) (fun _ => by kernel_rfl) ?_
    refine pl_val (want_no rfl) (some 34) rfl (.int .u64 (sr (um 8 (cv .u64 (s.size : Int))) 56)) (fun _ => by kernel_rfl) ?_
    refine pl_val (want_no rfl) (some 5) rfl (.int .u64 (sr (um 8 (cv .u64 (s.size : Int))) 56)) (fun _ => by kernel_rfl) ?_
    refine pl_nil ?_
    refine au_then ?_
    refine rg_lit ?_
    refine pl_val (want_no rfl) (some 35) rfl (.slice (some ⟨e10, 0, none⟩) (((((((((s.size + 1 + ((239 - s.size % 128) % 128)) + 1) + 1) + 1) + 1) + 1) + 1) + 1) + 1) c10) (fun _ => by kernel_rfl) ?_
    refine pl_val (want_no rfl) (some 36) rfl (.int .u64 (sr (um 8 (cv .u64 (s.size : Int))) 56)) (fun _ => by kernel_rfl) ?_
    refine pl_val (want_no rfl) (some 37) rfl (.int .u8 (cv .u8 (sr (um 8 (cv .u64 (s.size : Int))) 56))) (fun _ => by kernel_rfl) ?_
    refine pl_mk M (want_no rfl) (some 38) rfl (fun g11 => .slice (some ⟨g11, 0, none⟩) 1 1) (.cells (av 1 (fun _ => .int .u8 (cv .u8 (sr (um 8 (cv .u64 (s.size : Int))) 56)))) 5) (fun _ => by kernel_rfl) ?_
    intro g11 u22 M
    replace M : Mem ⟨w, none⟩ [⟨g3, .cells (av 1 (fun _ => .int .u8 0)) 5⟩, ⟨g4, .cells (av 1 (fun _ => .int .u8 0)) 5⟩, ⟨g5, .cells (av 1 (fun _ => .int .u8 0)) 5⟩, ⟨g6, .cells (av 1 (fun _ => .int .u8 0)) 5⟩, ⟨g7, .cells (av 1 (fun _ => .int .u8 0)) 5⟩, ⟨g8, .cells (av 1 (fun _ => .int .u8 0)) 5⟩, ⟨g9, .cells (av 1 (fun _ => .int .u8 0)) 5⟩, ⟨g10, .cells (av 1 (fun _ => .int .u8 0)) 5⟩, ⟨e10, Y10⟩, ⟨g11, .cells (av 1 (fun _ => .int .u8 (cv .u8 (sr (um 8 (cv .u64 (s.size : Int))) 56)))) 5⟩] u22 := M
    refine pl_app M (want_no rfl) (some 39) rfl 41 41 5 _ (.int .u8 0) Tryd.underlying41 info5_eq info5_z (by kernel_rfl) (by decide +kernel) rfl 8 e10 ((((((((((s.size + 1 + ((239 - s.size % 128) % 128)) + 1) + 1) + 1) + 1) + 1) + 1) + 1) + 1)) c10 Y10 (vs8 (sb s ++ [128] ++ List.replicate ((239 - s.size % 128) % 128) 0 ++ [0] ++ [0] ++ [0] ++ [0] ++ [0] ++ [0] ++ [0] ++ [0])) rfl hY10 (by rw [vs8_length]; simp [sb_length]; omega) (by omega) 9 g11 5 (.int .u8 (cv .u8 (sr (um 8 (cv .u64 (s.size : Int))) 56))) rfl rfl (fun _ => by kernel_rfl) ?_
    intro e11 c11 Y11 u23 hY11 M
    rw [vs8_app] at hY11
    replace M : Mem ⟨w, none⟩ [⟨g3, .cells (av 1 (fun _ => .int .u8 0)) 5⟩, ⟨g4, .cells (av 1 (fun _ => .int .u8 0)) 5⟩, ⟨g5, .cells (av 1 (fun _ => .int .u8 0)) 5⟩, ⟨g6, .cells (av 1 (fun _ => .int .u8 0)) 5⟩, ⟨g7, .cells (av 1 (fun _ => .int .u8 0)) 5⟩, ⟨g8, .cells (av 1 (fun _ => .int .u8 0)) 5⟩, ⟨g9, .cells (av 1 (fun _ => .int .u8 0)) 5⟩, ⟨g10, .cells (av 1 (fun _ => .int .u8 0)) 5⟩, ⟨g11, .cells (av 1 (fun _ => .int .u8 (cv .u8 (sr (um 8 (cv .u64 (s.size : Int))) 56)))) 5⟩, ⟨e11, Y11⟩] u23 := M
    refine pl_val (want_no rfl) (some 3) rfl (.slice (some ⟨e11, 0, none⟩) ((((((((((s.size + 1 + ((239 - s.size % 128) % 128)) + 1) + 1) + 1) + 1) + 1) + 1) + 1) + 1) + 1) c11) (fun _ => by kernel_rfl) ?_
    refine pl_nil ?_
    refine au_block ?_
    refine au_then ?_
    refine rg_lit ?_
    refine pl_val (want_no rfl) (some 23) rfl (.int .i64 7) (fun _ => by kernel_rfl) ?_
    refine pl_val (want_no rfl) (some 24) rfl (.int .i64 6) (fun _ => by kernel_rfl) ?_
    refine pl_val (want_no rfl) (some 4) rfl (.int .i64 6) (fun _ => by kernel_rfl) ?_
    refine pl_nil ?_
    refine au_then ?_
    refine rounds_go ?_
    refine wp_seq ?_
    refine wp_seq ?_
    refine rg_lit ?_
    refine pl_val (want_no rfl) (some 21) rfl (.int .i64 6) (fun _ => by kernel_rfl) ?_
    refine pl_val (want_no rfl) (some 22) rfl (.bool true) (fun _ => by kernel_rfl) ?_
    refine pl_nil ?_
    refine au_then ?_
    refine wp_cond_true (by kernel_rfl) ?_
    refine wp_skip ?_
    refine au_then ?_
    refine wp_seq ?_
    refine wp_block ?_
    refine wp_seq ?_
    refine rg_lit ?_
    refine pl_val (want_no rfl) (some 5) rfl (.int .u64 0) (fun _ => by kernel_rfl) ?_
    refine pl_nil ?_
    refine au_then ?_
    refine wp_seq ?_
    refine wp_seq ?_
    refine rg_lit ?_
    refine pl_val (want_no rfl) (some 25) rfl (.int .i64 6) (fun _ => by kernel_rfl) ?_
    refine pl_val (want_no rfl) (some 26) rfl (.bool true) (fun _ => by kernel_rfl) ?_
    refine pl_nil ?_
    refine au_then ?_
    refine wp_cond_true (by kernel_rfl) ?_
    refine rg_lit ?_
    refine pl_val (want_no rfl) (some 27) rfl (.string s) (fun _ => by kernel_rfl) ?_
    refine pl_val (want_no rfl) (some 28) rfl (.int .i64 (s.size : Int)) (fun _ => by kernel_rfl) ?_
    refine pl_val (want_no rfl) (some 29) rfl (.int .u64 (cv .u64 (s.size : Int))) (fun _ => by kernel_rfl) ?_
    refine pl_val (want_no rfl) (some 30) rfl (.int .u64 (um 8 (cv .u64 (s.size : Int)))) (fun _ => by kernel_rfl) ?_
    refine pl_val (want_no rfl) (some 31) rfl (.int .i64 6) (fun _ => by kernel_rfl) ?_
    refine pl_val (want_no rfl) (some 32) rfl (.int .i64 48) (fun _ => by kernel_rfl) ?_
    refine pl_val (want_no rfl) (some 33) rfl (.int .u64 48) (fun _ => by kernel_rfl) ?_
    refine pl_val (want_no rfl) (some 34) rfl (.int .u64 (sr (um 8 (cv .u64 (s.size : Int))) 48)) (fun _ => by kernel_rfl) ?_
    refine pl_val (want_no rfl) (some 5) rfl (.int .u64 (sr (um 8 (cv .u64 (s.size : Int))) 48)) (fun _ => by kernel_rfl) ?_
    refine pl_nil ?_
    refine au_then ?_
    refine rg_lit ?_
    refine pl_val (want_no rfl) (some 35) rfl (.slice (some ⟨e11, 0, none⟩) ((((((((((s.size + 1 + ((239 - s.size % 128) % 128)) + 1) + 1) + 1) + 1) + 1) + 1) + 1) + 1) + 1) c11) (fun _ => by kernel_rfl) ?_
    refine pl_val (want_no rfl) (some 36) rfl (.int .u64 (sr (um 8 (cv .u64 (s.size : Int))) 48)) (fun _ => by kernel_rfl) ?_
    refine pl_val (want_no rfl) (some 37) rfl (.int .u8 (cv .u8 (sr (um 8 (cv .u64 (s.size : Int))) 48))) (fun _ => by kernel_rfl) ?_
    refine pl_mk M (want_no rfl) (some 38) rfl (fun g12 => .slice (some ⟨g12, 0, none⟩) 1 1) (.cells (av 1 (fun _ => .int .u8 (cv .u8 (sr (um 8 (cv .u64 (s.size : Int))) 48)))) 5) (fun _ => by kernel_rfl) ?_
    intro g12 u24 M
    replace M : Mem ⟨w, none⟩ [⟨g3, .cells (av 1 (fun _ => .int .u8 0)) 5⟩, ⟨g4, .cells (av 1 (fun _ => .int .u8 0)) 5⟩, ⟨g5, .cells (av 1 (fun _ => .int .u8 0)) 5⟩, ⟨g6, .cells (av 1 (fun _ => .int .u8 0)) 5⟩, ⟨g7, .cells (av 1 (fun _ => .int .u8 0)) 5⟩, ⟨g8, .cells (av 1 (fun _ => .int .u8 0)) 5⟩, ⟨g9, .cells (av 1 (fun _ => .int .u8 0)) 5⟩, ⟨g10, .cells (av 1 (fun _ => .int .u8 0)) 5⟩, ⟨g11, .cells (av 1 (fun _ => .int .u8 (cv .u8 (sr (um 8 (cv .u64 (s.size : Int))) 56)))) 5⟩, ⟨e11, Y11⟩, ⟨g12, .cells (av 1 (fun _ => .int .u8 (cv .u8 (sr (um 8 (cv .u64 (s.size : Int))) 48)))) 5⟩] u24 := M
    refine pl_app M (want_no rfl) (some 39) rfl 41 41 5 _ (.int .u8 0) Tryd.underlying41 info5_eq info5_z (by kernel_rfl) (by decide +kernel) rfl 9 e11 (((((((((((s.size + 1 + ((239 - s.size % 128) % 128)) + 1) + 1) + 1) + 1) + 1) + 1) + 1) + 1) + 1)) c11 Y11 (vs8 (sb s ++ [128] ++ List.replicate ((239 - s.size % 128) % 128) 0 ++ [0] ++ [0] ++ [0] ++ [0] ++ [0] ++ [0] ++ [0] ++ [0] ++ [(cv .u8 (sr (um 8 (cv .u64 (s.size : Int))) 56))])) rfl hY11 (by rw [vs8_length]; simp [sb_length]; omega) (by omega) 10 g12 5 (.int .u8 (cv .u8 (sr (um 8 (cv .u64 (s.size : Int))) 48))) rfl rfl (fun _ => by kernel_rfl) ?_
    intro e12 c12 Y12 u25 hY12 M
    rw [vs8_app] at hY12
    replace M : Mem ⟨w, none⟩ [⟨g3, .cells (av 1 (fun _ => .int .u8 0)) 5⟩, ⟨g4, .cells (av 1 (fun _ => .int .u8 0)) 5⟩, ⟨g5, .cells (av 1 (fun _ => .int .u8 0)) 5⟩, ⟨g6, .cells (av 1 (fun _ => .int .u8 0)) 5⟩, ⟨g7, .cells (av 1 (fun _ => .int .u8 0)) 5⟩, ⟨g8, .cells (av 1 (fun _ => .int .u8 0)) 5⟩, ⟨g9, .cells (av 1 (fun _ => .int .u8 0)) 5⟩, ⟨g10, .cells (av 1 (fun _ => .int .u8 0)) 5⟩, ⟨g11, .cells (av 1 (fun _ => .int .u8 (cv .u8 (sr (um 8 (cv .u64 (s.size : Int))) 56)))) 5⟩, ⟨g12, .cells (av 1 (fun _ => .int .u8 (cv .u8 (sr (um 8 (cv .u64 (s.size : Int))) 48)))) 5⟩, ⟨e12, Y12⟩] u25 := M
    refine pl_val (want_no rfl) (some 3) rfl (.slice (some ⟨e12, 0, none⟩) (((((((((((s.size + 1 + ((239 - s.size % 128) % 128)) + 1) + 1) + 1) + 1) + 1) + 1) + 1) + 1) + 1) + 1) c12) (fun _ => by kernel_rfl) ?_
    refine pl_nil ?_
    refine au_block ?_
    refine au_then ?_
    refine rg_lit ?_
    refine pl_val (want_no rfl) (some 23) rfl (.int .i64 6) (fun _ => by kernel_rfl) ?_
    refine pl_val (want_no rfl) (some 24) rfl (.int .i64 5) (fun _ => by kernel_rfl) ?_
    refine pl_val (want_no rfl) (some 4) rfl (.int .i64 5) (fun _ => by kernel_rfl) ?_
    refine pl_nil ?_
    refine au_then ?_
    refine rounds_go ?_
    refine wp_seq ?_
    refine wp_seq ?_
    refine rg_lit ?_
    refine pl_val (want_no rfl) (some 21) rfl (.int .i64 5) (fun _ => by kernel_rfl) ?_
    refine pl_val (want_no rfl) (some 22) rfl (.bool true) (fun _ => by kernel_rfl) ?_
    refine pl_nil ?_
    refine au_then ?_
    refine wp_cond_true (by kernel_rfl) ?_
    refine wp_skip ?_
    refine au_then ?_
    refine wp_seq ?_
    refine wp_block ?_
    refine wp_seq ?_
    refine rg_lit ?_
    refine pl_val (want_no rfl) (some 5) rfl (.int .u64 0) (fun _ => by kernel_rfl) ?_
    refine pl_nil ?_
    refine au_then ?_
    refine wp_seq ?_
    refine wp_seq ?_
    refine rg_lit ?_
    refine pl_val (want_no rfl) (some 25) rfl (.int .i64 5) (fun _ => by kernel_rfl) ?_
    refine pl_val (want_no rfl) (some 26) rfl (.bool true) (fun _ => by kernel_rfl) ?_
    refine pl_nil ?_
    refine au_then ?_
    refine wp_cond_true (by kernel_rfl) ?_
    refine rg_lit ?_
    refine pl_val (want_no rfl) (some 27) rfl (.string s) (fun _ => by kernel_rfl) ?_
    refine pl_val (want_no rfl) (some 28) rfl (.int .i64 (s.size : Int)) (fun _ => by kernel_rfl) ?_
    refine pl_val (want_no rfl) (some 29) rfl (.int .u64 (cv .u64 (s.size : Int))) (fun _ => by kernel_rfl) ?_
    refine pl_val (want_no rfl) (some 30) rfl (.int .u64 (um 8 (cv .u64 (s.size : Int)))) (fun _ => by kernel_rfl) ?_
    refine pl_val (want_no rfl) (some 31) rfl (.int .i64 5) (fun _ => by kernel_rfl) ?_
    refine pl_val (want_no rfl) (some 32) rfl (.int .i64 40) (fun _ => by kernel_rfl) ?_
    refine pl_val (want_no rfl) (some 33) rfl (.int .u64 40) (fun _ => by kernel_rfl) ?_
    refine pl_val (want_no rfl) (some 34) rfl (.int .u64 (sr (um 8 (cv .u64 (s.size : Int))) 40)) (fun _ => by kernel_rfl) ?_
    refine pl_val (want_no rfl) (some 5) rfl (.int .u64 (sr (um 8 (cv .u64 (s.size : Int))) 40)) (fun _ => by kernel_rfl) ?_
    refine pl_nil ?_
    refine au_then ?_
    refine rg_lit ?_
    refine pl_val (want_no rfl) (some 35) rfl (.slice (some ⟨e12, 0, none⟩) (((((((((((s.size + 1 + ((239 - s.size % 128) % 128)) + 1) + 1) + 1) + 1) + 1) + 1) + 1) + 1) + 1) + 1) c12) (fun _ => by kernel_rfl) ?_
    refine pl_val (want_no rfl) (some 36) rfl (.int .u64 (sr (um 8 (cv .u64 (s.size : Int))) 40)) (fun _ => by kernel_rfl) ?_
    refine pl_val (want_no rfl) (some 37) rfl (.int .u8 (cv .u8 (sr (um 8 (cv .u64 (s.size : Int))) 40))) (fun _ => by kernel_rfl) ?_
    refine pl_mk M (want_no rfl) (some 38) rfl (fun g13 => .slice (some ⟨g13, 0, none⟩) 1 1) (.cells (av 1 (fun _ => .int .u8 (cv .u8 (sr (um 8 (cv .u64 (s.size : Int))) 40)))) 5) (fun _ => by kernel_rfl) ?_
    intro g13 u26 M
    replace M : Mem ⟨w, none⟩ [⟨g3, .cells (av 1 (fun _ => .int .u8 0)) 5⟩, ⟨g4, .cells (av 1 (fun _ => .int .u8 0)) 5⟩, ⟨g5, .cells (av 1 (fun _ => .int .u8 0)) 5⟩, ⟨g6, .cells (av 1 (fun _ => .int .u8 0)) 5⟩, ⟨g7, .cells (av 1 (fun _ => .int .u8 0)) 5⟩, ⟨g8, .cells (av 1 (fun _ => .int .u8 0)) 5⟩, ⟨g9, .cells (av 1 (fun _ => .int .u8 0)) 5⟩, ⟨g10, .cells (av 1 (fun _ => .int .u8 0)) 5⟩, ⟨g11, .cells (av 1 (fun _ => .int .u8 (cv .u8 (sr (um 8 (cv .u64 (s.size : Int))) 56)))) 5⟩, ⟨g12, .cells (av 1 (fun _ => .int .u8 (cv .u8 (sr (um 8 (cv .u64 (s.size : Int))) 48)))) 5⟩, ⟨e12, Y12⟩, ⟨g13, .cells (av 1 (fun _ => .int .u8 (cv .u8 (sr (um 8 (cv .u64 (s.size : Int))) 40)))) 5⟩] u26 := M
    refine pl_app M (want_no rfl) (some 39) rfl 41 41 5 _ (.int .u8 0) Tryd.underlying41 info5_eq info5_z (by kernel_rfl) (by decide +kernel) rfl 10 e12 ((((((((((((s.size + 1 + ((239 - s.size % 128) % 128)) + 1) + 1) + 1) + 1) + 1) + 1) + 1) + 1) + 1) + 1)) c12 Y12 (vs8 (sb s ++ [128] ++ List.replicate ((239 - s.size % 128) % 128) 0 ++ [0] ++ [0] ++ [0] ++ [0] ++ [0] ++ [0] ++ [0] ++ [0] ++ [(cv .u8 (sr (um 8 (cv .u64 (s.size : Int))) 56))] ++ [(cv .u8 (sr (um 8 (cv .u64 (s.size : Int))) 48))])) rfl hY12 (by rw [vs8_length]; simp [sb_length]; omega) (by omega) 11 g13 5 (.int .u8 (cv .u8 (sr (um 8 (cv .u64 (s.size : Int))) 40))) rfl rfl (fun _ => by kernel_rfl) ?_
    intro e13 c13 Y13 u27 hY13 M
    rw [vs8_app] at hY13
    replace M : Mem ⟨w, none⟩ [⟨g3, .cells (av 1 (fun _ => .int .u8 0)) 5⟩, ⟨g4, .cells (av 1 (fun _ => .int .u8 0)) 5⟩, ⟨g5, .cells (av 1 (fun _ => .int .u8 0)) 5⟩, ⟨g6, .cells (av 1 (fun _ => .int .u8 0)) 5⟩, ⟨g7, .cells (av 1 (fun _ => .int .u8 0)) 5⟩, ⟨g8, .cells (av 1 (fun _ => .int .u8 0)) 5⟩, ⟨g9, .cells (av 1 (fun _ => .int .u8 0)) 5⟩, ⟨g10, .cells (av 1 (fun _ => .int .u8 0)) 5⟩, ⟨g11, .cells (av 1 (fun _ => .int .u8 (cv .u8 (sr (um 8 (cv .u64 (s.size : Int))) 56)))) 5⟩, ⟨g12, .cells (av 1 (fun _ => .int .u8 (cv .u8 (sr (um 8 (cv .u64 (s.size : Int))) 48)))) 5⟩, ⟨g13, .cells (av 1 (fun _ => .int .u8 (cv .u8 (sr (um 8 (cv .u64 (s.size : Int))) 40)))) 5⟩, ⟨e13, Y13⟩] u27 := M
    refine pl_val (want_no rfl) (some 3) rfl (.slice (some ⟨e13, 0, none⟩) ((((((((((((s.size + 1 + ((239 - s.size % 128) % 128)) + 1) + 1) + 1) + 1) + 1) + 1) + 1) + 1) + 1) + 1) + 1) c13) (fun _ => by kernel_rfl) ?_
    refine pl_nil ?_
    refine au_block ?_
    refine au_then ?_
    refine rg_lit ?_
    refine pl_val (want_no rfl) (some 23) rfl (.int .i64 5) (fun _ => by kernel_rfl) ?_
    refine pl_val (want_no rfl) (some 24) rfl (.int .i64 4) (fun _ => by kernel_rfl) ?_
    refine pl_val (want_no rfl) (some 4) rfl (.int .i64 4) (fun _ => by kernel_rfl) ?_
    refine pl_nil ?_
    refine au_then ?_
    refine rounds_go ?_
    refine wp_seq ?_
    refine wp_seq ?_
    refine rg_lit ?_
    refine pl_val (want_no rfl) (some 21) rfl (.int .i64 4) (fun _ => by kernel_rfl) ?_
    refine pl_val (want_no rfl) (some 22) rfl (.bool true) (fun _ => by kernel_rfl) ?_
    refine pl_nil ?_
    refine au_then ?_
    refine wp_cond_true (by kernel_rfl) ?_
    refine wp_skip ?_
    refine au_then ?_
    refine wp_seq ?_
    refine wp_block ?_
    refine wp_seq ?_
    refine rg_lit ?_
    refine pl_val (want_no rfl) (some 5) rfl (.int .u64 0) (fun _ => by kernel_rfl) ?_
    refine pl_nil ?_
    refine au_then ?_
    refine wp_seq ?_
    refine wp_seq ?_
    refine rg_lit ?_
    refine pl_val (want_no rfl) (some 25) rfl (.int .i64 4) (fun _ => by kernel_rfl) ?_
    refine pl_val (want_no rfl) (some 26) rfl (.bool true) (fun _ => by kernel_rfl) ?_
    refine pl_nil ?_
    refine au_then ?_
    refine wp_cond_true (by kernel_rfl) ?_
    refine rg_lit ?_
    refine pl_val (want_no rfl) (some 27) rfl (.string s) (fun _ => by kernel_rfl) ?_
    refine pl_val (want_no rfl) (some 28) rfl (.int .i64 (s.size : Int)) (fun _ => by kernel_rfl) ?_
    refine pl_val (want_no rfl) (some 29) rfl (.int .u64 (cv .u64 (s.size : Int))) (fun _ => by kernel_rfl) ?_
    refine pl_val (want_no rfl) (some 30) rfl (.int .u64 (um 8 (cv .u64 (s.size : Int)))) (fun _ => by kernel_rfl) ?_
    refine pl_val (want_no rfl) (some 31) rfl (.int .i64 4) (fun _ => by kernel_rfl) ?_
    refine pl_val (want_no rfl) (some 32) rfl (.int .i64 32) (fun _ => by kernel_rfl) ?_
    refine pl_val (want_no rfl) (some 33) rfl (.int .u64 32) (fun _ => by kernel_rfl) ?_
    refine pl_val (want_no rfl) (some 34) rfl (.int .u64 (sr (um 8 (cv .u64 (s.size : Int))) 32)) (fun _ => by kernel_rfl) ?_
    refine pl_val (want_no rfl) (some 5) rfl (.int .u64 (sr (um 8 (cv .u64 (s.size : Int))) 32)) (fun _ => by kernel_rfl) ?_
    refine pl_nil ?_
    refine au_then ?_
    refine rg_lit ?_
    refine pl_val (want_no rfl) (some 35) rfl (.slice (some ⟨e13, 0, none⟩) ((((((((((((s.size + 1 + ((239 - s.size % 128) % 128)) + 1) + 1) + 1) + 1) + 1) + 1) + 1) + 1) + 1) + 1) + 1) c13) (fun _ => by kernel_rfl) ?_
    refine pl_val (want_no rfl) (some 36) rfl (.int .u64 (sr (um 8 (cv .u64 (s.size : Int))) 32)) (fun _ => by kernel_rfl) ?_
    refine pl_val (want_no rfl) (some 37) rfl (.int .u8 (cv .u8 (sr (um 8 (cv .u64 (s.size : Int))) 32))) (fun _ => by kernel_rfl) ?_
    refine pl_mk M (want_no rfl) (some 38) rfl (fun g14 => .slice (some ⟨g14, 0, none⟩) 1 1) (.cells (av 1 (fun _ => .int .u8 (cv .u8 (sr (um 8 (cv .u64 (s.size : Int))) 32)))) 5) (fun _ => by kernel_rfl) ?_
    intro g14 u28 M
    replace M : Mem ⟨w, none⟩ [⟨g3, .cells (av 1 (fun _ => .int .u8 0)) 5⟩, ⟨g4, .cells (av 1 (fun _ => .int .u8 0)) 5⟩, ⟨g5, .cells (av 1 (fun _ => .int .u8 0)) 5⟩, ⟨g6, .cells (av 1 (fun _ => .int .u8 0)) 5⟩, ⟨g7, .cells (av 1 (fun _ => .int .u8 0)) 5⟩, ⟨g8, .cells (av 1 (fun _ => .int .u8 0)) 5⟩, ⟨g9, .cells (av 1 (fun _ => .int .u8 0)) 5⟩, ⟨g10, .cells (av 1 (fun _ => .int .u8 0)) 5⟩, ⟨g11, .cells (av 1 (fun _ => .int .u8 (cv .u8 (sr (um 8 (cv .u64 (s.size : Int))) 56)))) 5⟩, ⟨g12, .cells (av 1 (fun _ => .int .u8 (cv .u8 (sr (um 8 (cv .u64 (s.size : Int))) 48)))) 5⟩, ⟨g13, .cells (av 1 (fun _ => .int .u8 (cv .u8 (sr (um 8 (cv .u64 (s.size : Int))) 40)))) 5⟩, ⟨e13, Y13⟩, ⟨g14, .cells (av 1 (fun _ => .int .u8 (cv .u8 (sr (um 8 (cv .u64 (s.size : Int))) 32)))) 5⟩] u28 := M
    refine pl_app M (want_no rfl) (some 39) rfl 41 41 5 _ (.int .u8 0) Tryd.underlying41 info5_eq info5_z (by kernel_rfl) (by decide +kernel) rfl 11 e13 (((((((((((((s.size + 1 + ((239 - s.size % 128) % 128)) + 1) + 1) + 1) + 1) + 1) + 1) + 1) + 1) + 1) + 1) + 1)) c13 Y13 (vs8 (sb s ++ [128] ++ List.replicate ((239 - s.size % 128) % 128) 0 ++ [0] ++ [0] ++ [0] ++ [0] ++ [0] ++ [0] ++ [0] ++ [0] ++ [(cv .u8 (sr (um 8 (cv .u64 (s.size : Int))) 56))] ++ [(cv .u8 (sr (um 8 (cv .u64 (s.size : Int))) 48))] ++ [(cv .u8 (sr (um 8 (cv .u64 (s.size : Int))) 40))])) rfl hY13 (by rw [vs8_length]; simp [sb_length]; omega) (by omega) 12 g14 5 (.int .u8 (cv .u8 (sr (um 8 (cv .u64 (s.size : Int))) 32))) rfl rfl (fun _ => by kernel_rfl) ?_
    intro e14 c14 Y14 u29 hY14 M
    rw [vs8_app] at hY14
    replace M : Mem ⟨w, none⟩ [⟨g3, .cells (av 1 (fun _ => .int .u8 0)) 5⟩, ⟨g4, .cells (av 1 (fun _ => .int .u8 0)) 5⟩, ⟨g5, .cells (av 1 (fun _ => .int .u8 0)) 5⟩, ⟨g6, .cells (av 1 (fun _ => .int .u8 0)) 5⟩, ⟨g7, .cells (av 1 (fun _ => .int .u8 0)) 5⟩, ⟨g8, .cells (av 1 (fun _ => .int .u8 0)) 5⟩, ⟨g9, .cells (av 1 (fun _ => .int .u8 0)) 5⟩, ⟨g10, .cells (av 1 (fun _ => .int .u8 0)) 5⟩, ⟨g11, .cells (av 1 (fun _ => .int .u8 (cv .u8 (sr (um 8 (cv .u64 (s.size : Int))) 56)))) 5⟩, ⟨g12, .cells (av 1 (fun _ => .int .u8 (cv .u8 (sr (um 8 (cv .u64 (s.size : Int))) 48)))) 5⟩, ⟨g13, .cells (av 1 (fun _ => .int .u8 (cv .u8 (sr (um 8 (cv .u64 (s.size : Int))) 40)))) 5⟩, ⟨g14, .cells (av 1 (fun _ => .int .u8 (cv .u8 (sr (um 8 (cv .u64 (s.size : Int))) 32)))) 5⟩, ⟨e14, Y14⟩] u29 := M
    refine pl_val (want_no rfl) (some 3) rfl (.slice (some ⟨e14, 0, none⟩) (((((((((((((s.size + 1 + ((239 - s.size % 128) % 128)) + 1) + 1) + 1) + 1) + 1) + 1) + 1) + 1) + 1) + 1) + 1) + 1) c14) (fun _ => by kernel_rfl) ?_
    refine pl_nil ?_
    refine au_block ?_
    refine au_then ?_
    refine rg_lit ?_
    refine pl_val (want_no rfl) (some 23) rfl (.int .i64 4) (fun _ => by kernel_rfl) ?_
    refine pl_val (want_no rfl) (some 24) rfl (.int .i64 3) (fun _ => by kernel_rfl) ?_
    refine pl_val (want_no rfl) (some 4) rfl (.int .i64 3) (fun _ => by kernel_rfl) ?_
    refine pl_nil ?_
    refine au_then ?_
    refine rounds_go ?_
    refine wp_seq ?_
    refine wp_seq ?_
    refine rg_lit ?_
    refine pl_val (want_no rfl) (some 21) rfl (.int .i64 3) (fun _ => by kernel_rfl) ?_
    refine pl_val (want_no rfl) (some 22) rfl (.bool true) (fun _ => by kernel_rfl) ?_
    refine pl_nil ?_
    refine au_then ?_
    refine wp_cond_true (by kernel_rfl) ?_
    refine wp_skip ?_
    refine au_then ?_
    refine wp_seq ?_
    refine wp_block ?_
    refine wp_seq ?_
    refine rg_lit ?_
    refine pl_val (want_no rfl) (some 5) rfl (.int .u64 0) (fun _ => by kernel_rfl) ?_
    refine pl_nil ?_
    refine au_then ?_
    refine wp_seq ?_
    refine wp_seq ?_
    refine rg_lit ?_
    refine pl_val (want_no rfl) (some 25) rfl (.int .i64 3) (fun _ => by kernel_rfl) ?_
    refine pl_val (want_no rfl) (some 26) rfl (.bool true) (fun _ => by kernel_rfl) ?_
    refine pl_nil ?_
    refine au_then ?_
    refine wp_cond_true (by kernel_rfl) ?_
    refine rg_lit ?_
    refine pl_val (want_no rfl) (some 27) rfl (.string s) (fun _ => by kernel_rfl) ?_
    refine pl_val (want_no rfl) (some 28) rfl (.int .i64 (s.size : Int)) (fun _ => by kernel_rfl) ?_
    refine pl_val (want_no rfl) (some 29) rfl (.int .u64 (cv .u64 (s.size : Int))) (fun _ => by kernel_rfl) ?_
    refine pl_val (want_no rfl) (some 30) rfl (.int .u64 (um 8 (cv .u64 (s.size : Int)))) (fun _ => by kernel_rfl) ?_
    refine pl_val (want_no rfl) (some 31) rfl (.int .i64 3) (fun _ => by kernel_rfl) ?_
    refine pl_val (want_no rfl) (some 32) rfl (.int .i64 24) (fun _ => by kernel_rfl) ?_
    refine pl_val (want_no rfl) (some 33) rfl (.int .u64 24) (fun _ => by kernel_rfl) ?_
    refine pl_val (want_no rfl) (some 34) rfl (.int .u64 (sr (um 8 (cv .u64 (s.size : Int))) 24)) (fun _ => by kernel_rfl) ?_
    refine pl_val (want_no rfl) (some 5) rfl (.int .u64 (sr (um 8 (cv .u64 (s.size : Int))) 24)) (fun _ => by kernel_rfl) ?_
    refine pl_nil ?_
    refine au_then ?_
    refine rg_lit ?_
    refine pl_val (want_no rfl) (some 35) rfl (.slice (some ⟨e14, 0, none⟩) (((((((((((((s.size + 1 + ((239 - s.size % 128) % 128)) + 1) + 1) + 1) + 1) + 1) + 1) + 1) + 1) + 1) + 1) + 1) + 1) c14) (fun _ => by kernel_rfl) ?_
    refine pl_val (want_no rfl) (some 36) rfl (.int .u64 (sr (um 8 (cv .u64 (s.size : Int))) 24)) (fun _ => by kernel_rfl) ?_
    refine pl_val (want_no rfl) (some 37) rfl (.int .u8 (cv .u8 (sr (um 8 (cv .u64 (s.size : Int))) 24))) (fun _ => by kernel_rfl) ?_
    refine pl_mk M (want_no rfl) (some 38) rfl (fun g15 => .slice (some ⟨g15, 0, none⟩) 1 1) (.cells (av 1 (fun _ => .int .u8 (cv .u8 (sr (um 8 (cv .u64 (s.size : Int))) 24)))) 5) (fun _ => by kernel_rfl) ?_
    intro g15 u30 M
    replace M : Mem ⟨w, none⟩ [⟨g3, .cells (av 1 (fun _ => .int .u8 0)) 5⟩, ⟨g4, .cells (av 1 (fun _ => .int .u8 0)) 5⟩, ⟨g5, .cells (av 1 (fun _ => .int .u8 0)) 5⟩, ⟨g6, .cells (av 1 (fun _ => .int .u8 0)) 5⟩, ⟨g7, .cells (av 1 (fun _ => .int .u8 0)) 5⟩, ⟨g8, .cells (av 1 (fun _ => .int .u8 0)) 5⟩, ⟨g9, .cells (av 1 (fun _ => .int .u8 0)) 5⟩, ⟨g10, .cells (av 1 (fun _ => .int .u8 0)) 5⟩, ⟨g11, .cells (av 1 (fun _ => .int .u8 (cv .u8 (sr (um 8 (cv .u64 (s.size : Int))) 56)))) 5⟩, ⟨g12, .cells (av 1 (fun _ => .int .u8 (cv .u8 (sr (um 8 (cv .u64 (s.size : Int))) 48)))) 5⟩, ⟨g13, .cells (av 1 (fun _ => .int .u8 (cv .u8 (sr (um 8 (cv .u64 (s.size : Int))) 40)))) 5⟩, ⟨g14, .cells (av 1 (fun _ => .int .u8 (cv .u8 (sr (um 8 (cv .u64 (s.size : Int))) 32)))) 5⟩, ⟨e14, Y14⟩, ⟨g15, .cells (av 1 (fun _ => .int .u8 (cv .u8 (sr (um 8 (cv .u64 (s.size : Int))) 24)))) 5⟩] u30 := M
    refine pl_app M (want_no rfl) (some 39) rfl 41 41 5 _ (.int .u8 0) Tryd.underlying41 info5_eq info5_z (by kernel_rfl) (by decide +kernel) rfl 12 e14 ((((((((((((((s.size + 1 + ((239 - s.size % 128) % 128)) + 1) + 1) + 1) + 1) + 1) + 1) + 1) + 1) + 1) + 1) + 1) + 1)) c14 Y14 (vs8 (sb s ++ [128] ++ List.replicate ((239 - s.size % 128) % 128) 0 ++ [0] ++ [0] ++ [0] ++ [0] ++ [0] ++ [0] ++ [0] ++ [0] ++ [(cv .u8 (sr (um 8 (cv .u64 (s.size : Int))) 56))] ++ [(cv .u8 (sr (um 8 (cv .u64 (s.size : Int))) 48))] ++ [(cv .u8 (sr (um 8 (cv .u64 (s.size : Int))) 40))] ++ [(cv .u8 (sr (um 8 (cv .u64 (s.size : Int))) 32))])) rfl hY14 (by rw [vs8_length]; simp [sb_length]; omega) (by omega) 13 g15 5 (.int .u8 (cv .u8 (sr (um 8 (cv .u64 (s.size : Int))) 24))) rfl rfl (fun _ => by kernel_rfl) ?_
    intro e15 c15 Y15 u31 hY15 M
    rw [vs8_app] at hY15
    replace M : Mem ⟨w, none⟩ [⟨g3, .cells (av 1 (fun _ => .int .u8 0)) 5⟩, ⟨g4, .cells (av 1 (fun _ => .int .u8 0)) 5⟩, ⟨g5, .cells (av 1 (fun _ => .int .u8 0)) 5⟩, ⟨g6, .cells (av 1 (fun _ => .int .u8 0)) 5⟩, ⟨g7, .cells (av 1 (fun _ => .int .u8 0)) 5⟩, ⟨g8, .cells (av 1 (fun _ => .int .u8 0)) 5⟩, ⟨g9, .cells (av 1 (fun _ => .int .u8 0)) 5⟩, ⟨g10, .cells (av 1 (fun _ => .int .u8 0)) 5⟩, ⟨g11, .cells (av 1 (fun _ => .int .u8 (cv .u8 (sr (um 8 (cv .u64 (s.size : Int))) 56)))) 5⟩, ⟨g12, .cells (av 1 (fun _ => .int .u8 (cv .u8 (sr (um 8 (cv .u64 (s.size : Int))) 48)))) 5⟩, ⟨g13, .cells (av 1 (fun _ => .int .u8 (cv .u8 (sr (um 8 (cv .u64 (s.size : Int))) 40)))) 5⟩, ⟨g14, .cells (av 1 (fun _ => .int .u8 (cv .u8 (sr (um 8 (cv .u64 (s.size : Int))) 32)))) 5⟩, ⟨g15, .cells (av 1 (fun _ => .int .u8 (cv .u8 (sr (um 8 (cv .u64 (s.size : Int))) 24)))) 5⟩, ⟨e15, Y15⟩] u31 := M
    refine pl_val (want_no rfl) (some 3) rfl (.slice (some ⟨e15, 0, none⟩) ((((((((((((((s.size + 1 + ((239 - s.size % 128) % 128)) + 1) + 1) + 1) + 1) + 1) + 1) + 1) + 1) + 1) + 1) + 1) + 1) + 1) c15) (fun _ => by kernel_rfl) ?_
    refine pl_nil ?_
    refine au_block ?_
    refine au_then ?_
    refine rg_lit ?_
    refine pl_val (want_no rfl) (some 23) rfl (.int .i64 3) (fun _ => by kernel_rfl) ?_
    refine pl_val (want_no rfl) (some 24) rfl (.int .i64 2) (fun _ => by kernel_rfl) ?_
    refine pl_val (want_no rfl) (some 4) rfl (.int .i64 2) (fun _ => by kernel_rfl) ?_
    refine pl_nil ?_
    refine au_then ?_
    refine rounds_go ?_
    refine wp_seq ?_
    refine wp_seq ?_
    refine rg_lit ?_
    refine pl_val (want_no rfl) (some 21) rfl (.int .i64 2) (fun _ => by kernel_rfl) ?_
    refine pl_val (want_no rfl) (some 22) rfl (.bool true) (fun _ => by kernel_rfl) ?_
    refine pl_nil ?_
    refine au_then ?_
    refine wp_cond_true (by kernel_rfl) ?_
    refine wp_skip ?_
    refine au_then ?_
    refine wp_seq ?_
    refine wp_block ?_
    refine wp_seq ?_
    refine rg_lit ?_
    refine pl_val (want_no rfl) (some 5) rfl (.int .u64 0) (fun _ => by kernel_rfl) ?_
    refine pl_nil ?_
    refine au_then ?_
    refine wp_seq ?_
    refine wp_seq ?_
    refine rg_lit ?_
    refine pl_val (want_no rfl) (some 25) rfl (.int .i64 2) (fun _ => by kernel_rfl) ?_
    refine pl_val (want_no rfl) (some 26) rfl (.bool true) (fun _ => by kernel_rfl) ?_
    refine pl_nil ?_
    refine au_then ?_
    refine wp_cond_true (by kernel_rfl) ?_
    refine rg_lit ?_
    refine pl_val (want_no rfl) (some 27) rfl (.string s) (fun _ => by kernel_rfl) ?_
    refine pl_val (want_no rfl) (some 28) rfl (.int .i64 (s.size : Int)) (fun _ => by kernel_rfl) ?_
    refine pl_val (want_no rfl) (some 29) rfl (.int .u64 (cv .u64 (s.size : Int))) (fun _ => by kernel_rfl) ?_
    refine pl_val (want_no rfl) (some 30) rfl (.int .u64 (um 8 (cv .u64 (s.size : Int)))) (fun _ => by kernel_rfl) ?_
    refine pl_val (want_no rfl) (some 31) rfl (.int .i64 2) (fun _ => by kernel_rfl) ?_
    refine pl_val (want_no rfl) (some 32) rfl (.int .i64 16) (fun _ => by kernel_rfl) ?_
    refine pl_val (want_no rfl) (some 33) rfl (.int .u64 16) (fun _ => by kernel_rfl) ?_
    refine pl_val (want_no rfl) (some 34) rfl (.int .u64 (sr (um 8 (cv .u64 (s.size : Int))) 16)) (fun _ => by kernel_rfl) ?_
    refine pl_val (want_no rfl) (some 5) rfl (.int .u64 (sr (um 8 (cv .u64 (s.size : Int))) 16)) (fun _ => by kernel_rfl) ?_
    refine pl_nil ?_
    refine au_then ?_
    refine rg_lit ?_
    refine pl_val (want_no rfl) (some 35) rfl (.slice (some ⟨e15, 0, none⟩) ((((((((((((((s.size + 1 + ((239 - s.size % 128) % 128)) + 1) + 1) + 1) + 1) + 1) + 1) + 1) + 1) + 1) + 1) + 1) + 1) + 1) c15) (fun _ => by kernel_rfl) ?_
    refine pl_val (want_no rfl) (some 36) rfl (.int .u64 (sr (um 8 (cv .u64 (s.size : Int))) 16)) (fun _ => by kernel_rfl) ?_
    refine pl_val (want_no rfl) (some 37) rfl (.int .u8 (cv .u8 (sr (um 8 (cv .u64 (s.size : Int))) 16))) (fun _ => by kernel_rfl) ?_
    refine pl_mk M (want_no rfl) (some 38) rfl (fun g16 => .slice (some ⟨g16, 0, none⟩) 1 1) (.cells (av 1 (fun _ => .int .u8 (cv .u8 (sr (um 8 (cv .u64 (s.size : Int))) 16)))) 5) (fun _ => by kernel_rfl) ?_
    intro g16 u32 M
    replace M : Mem ⟨w, none⟩ [⟨g3, .cells (av 1 (fun _ => .int .u8 0)) 5⟩, ⟨g4, .cells (av 1 (fun _ => .int .u8 0)) 5⟩, ⟨g5, .cells (av 1 (fun _ => .int .u8 0)) 5⟩, ⟨g6, .cells (av 1 (fun _ => .int .u8 0)) 5⟩, ⟨g7, .cells (av 1 (fun _ => .int .u8 0)) 5⟩, ⟨g8, .cells (av 1 (fun _ => .int .u8 0)) 5⟩, ⟨g9, .cells (av 1 (fun _ => .int .u8 0)) 5⟩, ⟨g10, .cells (av 1 (fun _ => .int .u8 0)) 5⟩, ⟨g11, .cells (av 1 (fun _ => .int .u8 (cv .u8 (sr (um 8 (cv .u64 (s.size : Int))) 56)))) 5⟩, ⟨g12, .cells (av 1 (fun _ => .int .u8 (cv .u8 (sr (um 8 (cv .u64 (s.size : Int))) 48)))) 5⟩, ⟨g13, .cells (av 1 (fun _ => .int .u8 (cv .u8 (sr (um 8 (cv .u64 (s.size : Int))) 40)))) 5⟩, ⟨g14, .cells (av 1 (fun _ => .int .u8 (cv .u8 (sr (um 8 (cv .u64 (s.size : Int))) 32)))) 5⟩, ⟨g15, .cells (av 1 (fun _ => .int .u8 (cv .u8 (sr (um 8 (cv .u64 (s.size : Int))) 24)))) 5⟩, ⟨e15, Y15⟩, ⟨g16, .cells (av 1 (fun _ => .int .u8 (cv .u8 (sr (um 8 (cv .u64 (s.size : Int))) 16)))) 5⟩] u32 := M
    refine pl_app M (want_no rfl) (some 39) rfl 41 41 5 _ (.int .u8 0) Tryd.underlying41 info5_eq info5_z (by kernel_rfl) (by decide +kernel) rfl 13 e15 (((((((((((((((s.size + 1 + ((239 - s.size % 128) % 128)) + 1) + 1) + 1) + 1) + 1) + 1) + 1) + 1) + 1) + 1) + 1) + 1) + 1)) c15 Y15 (vs8 (sb s ++ [128] ++ List.replicate ((239 - s.size % 128) % 128) 0 ++ [0] ++ [0] ++ [0] ++ [0] ++ [0] ++ [0] ++ [0] ++ [0] ++ [(cv .u8 (sr (um 8 (cv .u64 (s.size : Int))) 56))] ++ [(cv .u8 (sr (um 8 (cv .u64 (s.size : Int))) 48))] ++ [(cv .u8 (sr (um 8 (cv .u64 (s.size : Int))) 40))] ++ [(cv .u8 (sr (um 8 (cv .u64 (s.size : Int))) 32))] ++ [(cv .u8 (sr (um 8 (cv .u64 (s.size : Int))) 24))])) rfl hY15 (by rw [vs8_length]; simp [sb_length]; omega) (by omega) 14 g16 5 (.int .u8 (cv .u8 (sr (um 8 (cv .u64 (s.size : Int))) 16))) rfl rfl (fun _ => by kernel_rfl) ?_
    intro e16 c16 Y16 u33 hY16 M
    rw [vs8_app] at hY16
    replace M : Mem ⟨w, none⟩ [⟨g3, .cells (av 1 (fun _ => .int .u8 0)) 5⟩, ⟨g4, .cells (av 1 (fun _ => .int .u8 0)) 5⟩, ⟨g5, .cells (av 1 (fun _ => .int .u8 0)) 5⟩, ⟨g6, .cells (av 1 (fun _ => .int .u8 0)) 5⟩, ⟨g7, .cells (av 1 (fun _ => .int .u8 0)) 5⟩, ⟨g8, .cells (av 1 (fun _ => .int .u8 0)) 5⟩, ⟨g9, .cells (av 1 (fun _ => .int .u8 0)) 5⟩, ⟨g10, .cells (av 1 (fun _ => .int .u8 0)) 5⟩, ⟨g11, .cells (av 1 (fun _ => .int .u8 (cv .u8 (sr (um 8 (cv .u64 (s.size : Int))) 56)))) 5⟩, ⟨g12, .cells (av 1 (fun _ => .int .u8 (cv .u8 (sr (um 8 (cv .u64 (s.size : Int))) 48)))) 5⟩, ⟨g13, .cells (av 1 (fun _ => .int .u8 (cv .u8 (sr (um 8 (cv .u64 (s.size : Int))) 40)))) 5⟩, ⟨g14, .cells (av 1 (fun _ => .int .u8 (cv .u8 (sr (um 8 (cv .u64 (s.size : Int))) 32)))) 5⟩, ⟨g15, .cells (av 1 (fun _ => .int .u8 (cv .u8 (sr (um 8 (cv .u64 (s.size : Int))) 24)))) 5⟩, ⟨g16, .cells (av 1 (fun _ => .int .u8 (cv .u8 (sr (um 8 (cv .u64 (s.size : Int))) 16)))) 5⟩, ⟨e16, Y16⟩] u33 := M
    refine pl_val (want_no rfl) (some 3) rfl (.slice (some ⟨e16, 0, none⟩) (((((((((((((((s.size + 1 + ((239 - s.size % 128) % 128)) + 1) + 1) + 1) + 1) + 1) + 1) + 1) + 1) + 1) + 1) + 1) + 1) + 1) + 1) c16) (fun _ => by kernel_rfl) ?_
    refine pl_nil ?_
    refine au_block ?_
    refine au_then ?_
    refine rg_lit ?_
    refine pl_val (want_no rfl) (some 23) rfl (.int .i64 2) (fun _ => by kernel_rfl) ?_
    refine pl_val (want_no rfl) (some 24) rfl (.int .i64 1) (fun _ => by kernel_rfl) ?_
    refine pl_val (want_no rfl) (some 4) rfl (.int .i64 1) (fun _ => by kernel_rfl) ?_
    refine pl_nil ?_
    refine au_then ?_
    refine rounds_go ?_
    refine wp_seq ?_
    refine wp_seq ?_
    refine rg_lit ?_
    refine pl_val (want_no rfl) (some 21) rfl (.int .i64 1) (fun _ => by kernel_rfl) ?_
    refine pl_val (want_no rfl) (some 22) rfl (.bool true) (fun _ => by kernel_rfl) ?_
    refine pl_nil ?_
    refine au_then ?_
    refine wp_cond_true (by kernel_rfl) ?_
    refine wp_skip ?_
    refine au_then ?_
    refine wp_seq ?_
    refine wp_block ?_
    refine wp_seq ?_
    refine rg_lit ?_
    refine pl_val (want_no rfl) (some 5) rfl (.int .u64 0) (fun _ => by kernel_rfl) ?_
    refine pl_nil ?_
    refine au_then ?_
    refine wp_seq ?_
    refine wp_seq ?_
    refine rg_lit ?_
    refine pl_val (want_no rfl) (some 25) rfl (.int .i64 1) (fun _ => by kernel_rfl) ?_
    refine pl_val (want_no rfl) (some 26) rfl (.bool true) (fun _ => by kernel_rfl) ?_
    refine pl_nil ?_
    refine au_then ?_
    refine wp_cond_true (by kernel_rfl) ?_
    refine rg_lit ?_
    refine pl_val (want_no rfl) (some 27) rfl (.string s) (fun _ => by kernel_rfl) ?_
    refine pl_val (want_no rfl) (some 28) rfl (.int .i64 (s.size : Int)) (fun _ => by kernel_rfl) ?_
    refine pl_val (want_no rfl) (some 29) rfl (.int .u64 (cv .u64 (s.size : Int))) (fun _ => by kernel_rfl) ?_
    refine pl_val (want_no rfl) (some 30) rfl (.int .u64 (um 8 (cv .u64 (s.size : Int)))) (fun _ => by kernel_rfl) ?_
    refine pl_val (want_no rfl) (some 31) rfl (.int .i64 1) (fun _ => by kernel_rfl) ?_
    refine pl_val (want_no rfl) (some 32) rfl (.int .i64 8) (fun _ => by kernel_rfl) ?_
    refine pl_val (want_no rfl) (some 33) rfl (.int .u64 8) (fun _ => by kernel_rfl) ?_
    refine pl_val (want_no rfl) (some 34) rfl (.int .u64 (sr (um 8 (cv .u64 (s.size : Int))) 8)) (fun _ => by kernel_rfl) ?_
    refine pl_val (want_no rfl) (some 5) rfl (.int .u64 (sr (um 8 (cv .u64 (s.size : Int))) 8)) (fun _ => by kernel_rfl) ?_
    refine pl_nil ?_
    refine au_then ?_
    refine rg_lit ?_
    refine pl_val (want_no rfl) (some 35) rfl (.slice (some ⟨e16, 0, none⟩) (((((((((((((((s.size + 1 + ((239 - s.size % 128) % 128)) + 1) + 1) + 1) + 1) + 1) + 1) + 1) + 1) + 1) + 1) + 1) + 1) + 1) + 1) c16) (fun _ => by kernel_rfl) ?_
    refine pl_val (want_no rfl) (some 36) rfl (.int .u64 (sr (um 8 (cv .u64 (s.size : Int))) 8)) (fun _ => by kernel_rfl) ?_
    refine pl_val (want_no rfl) (some 37) rfl (.int .u8 (cv .u8 (sr (um 8 (cv .u64 (s.size : Int))) 8))) (fun _ => by kernel_rfl) ?_
    refine pl_mk M (want_no rfl) (some 38) rfl (fun g17 => .slice (some ⟨g17, 0, none⟩) 1 1) (.cells (av 1 (fun _ => .int .u8 (cv .u8 (sr (um 8 (cv .u64 (s.size : Int))) 8)))) 5) (fun _ => by kernel_rfl) ?_
    intro g17 u34 M
    replace M : Mem ⟨w, none⟩ [⟨g3, .cells (av 1 (fun _ => .int .u8 0)) 5⟩, ⟨g4, .cells (av 1 (fun _ => .int .u8 0)) 5⟩, ⟨g5, .cells (av 1 (fun _ => .int .u8 0)) 5⟩, ⟨g6, .cells (av 1 (fun _ => .int .u8 0)) 5⟩, ⟨g7, .cells (av 1 (fun _ => .int .u8 0)) 5⟩, ⟨g8, .cells (av 1 (fun _ => .int .u8 0)) 5⟩, ⟨g9, .cells (av 1 (fun _ => .int .u8 0)) 5⟩, ⟨g10, .cells (av 1 (fun _ => .int .u8 0)) 5⟩, ⟨g11, .cells (av 1 (fun _ => .int .u8 (cv .u8 (sr (um 8 (cv .u64 (s.size : Int))) 56)))) 5⟩, ⟨g12, .cells (av 1 (fun _ => .int .u8 (cv .u8 (sr (um 8 (cv .u64 (s.size : Int))) 48)))) 5⟩, ⟨g13, .cells (av 1 (fun _ => .int .u8 (cv .u8 (sr (um 8 (cv .u64 (s.size : Int))) 40)))) 5⟩, ⟨g14, .cells (av 1 (fun _ => .int .u8 (cv .u8 (sr (um 8 (cv .u64 (s.size : Int))) 32)))) 5⟩, ⟨g15, .cells (av 1 (fun _ => .int .u8 (cv .u8 (sr (um 8 (cv .u64 (s.size : Int))) 24)))) 5⟩, ⟨g16, .cells (av 1 (fun _ => .int .u8 (cv .u8 (sr (um 8 (cv .u64 (s.size : Int))) 16)))) 5⟩, ⟨e16, Y16⟩, ⟨g17, .cells (av 1 (fun _ => .int .u8 (cv .u8 (sr (um 8 (cv .u64 (s.size : Int))) 8)))) 5⟩] u34 := M
    refine pl_app M (want_no rfl) (some 39) rfl 41 41 5 _ (.int .u8 0) Tryd.underlying41 info5_eq info5_z (by kernel_rfl) (by decide +kernel) rfl 14 e16 ((((((((((((((((s.size + 1 + ((239 - s.size % 128) % 128)) + 1) + 1) + 1) + 1) + 1) + 1) + 1) + 1) + 1) + 1) + 1) + 1) + 1) + 1)) c16 Y16 (vs8 (sb s ++ [128] ++ List.replicate ((239 - s.size % 128) % 128) 0 ++ [0] ++ [0] ++ [0] ++ [0] ++ [0] ++ [0] ++ [0] ++ [0] ++ [(cv .u8 (sr (um 8 (cv .u64 (s.size : Int))) 56))] ++ [(cv .u8 (sr (um 8 (cv .u64 (s.size : Int))) 48))] ++ [(cv .u8 (sr (um 8 (cv .u64 (s.size : Int))) 40))] ++ [(cv .u8 (sr (um 8 (cv .u64 (s.size : Int))) 32))] ++ [(cv .u8 (sr (um 8 (cv .u64 (s.size : Int))) 24))] ++ [(cv .u8 (sr (um 8 (cv .u64 (s.size : Int))) 16))])) rfl hY16 (by rw [vs8_length]; simp [sb_length]; omega) (by omega) 15 g17 5 (.int .u8 (cv .u8 (sr (um 8 (cv .u64 (s.size : Int))) 8))) rfl rfl (fun _ => by kernel_rfl) ?_
    intro e17 c17 Y17 u35 hY17 M
    rw [vs8_app] at hY17
    replace M : Mem ⟨w, none⟩ [⟨g3, .cells (av 1 (fun _ => .int .u8 0)) 5⟩, ⟨g4, .cells (av 1 (fun _ => .int .u8 0)) 5⟩, ⟨g5, .cells (av 1 (fun _ => .int .u8 0)) 5⟩, ⟨g6, .cells (av 1 (fun _ => .int .u8 0)) 5⟩, ⟨g7, .cells (av 1 (fun _ => .int .u8 0)) 5⟩, ⟨g8, .cells (av 1 (fun _ => .int .u8 0)) 5⟩, ⟨g9, .cells (av 1 (fun _ => .int .u8 0)) 5⟩, ⟨g10, .cells (av 1 (fun _ => .int .u8 0)) 5⟩, ⟨g11, .cells (av 1 (fun _ => .int .u8 (cv .u8 (sr (um 8 (cv .u64 (s.size : Int))) 56)))) 5⟩, ⟨g12, .cells (av 1 (fun _ => .int .u8 (cv .u8 (sr (um 8 (cv .u64 (s.size : Int))) 48)))) 5⟩, ⟨g13, .cells (av 1 (fun _ => .int .u8 (cv .u8 (sr (um 8 (cv .u64 (s.size : Int))) 40)))) 5⟩, ⟨g14, .cells (av 1 (fun _ => .int .u8 (cv .u8 (sr (um 8 (cv .u64 (s.size : Int))) 32)))) 5⟩, ⟨g15, .cells (av 1 (fun _ => .int .u8 (cv .u8 (sr (um 8 (cv .u64 (s.size : Int))) 24)))) 5⟩, ⟨g16, .cells (av 1 (fun _ => .int .u8 (cv .u8 (sr (um 8 (cv .u64 (s.size : Int))) 16)))) 5⟩, ⟨g17, .cells (av 1 (fun _ => .int .u8 (cv .u8 (sr (um 8 (cv .u64 (s.size : Int))) 8)))) 5⟩, ⟨e17, Y17⟩] u35 := M
    refine pl_val (want_no rfl) (some 3) rfl (.slice (some ⟨e17, 0, none⟩) ((((((((((((((((s.size + 1 + ((239 - s.size % 128) % 128)) + 1) + 1) + 1) + 1) + 1) + 1) + 1) + 1) + 1) + 1) + 1) + 1) + 1) + 1) + 1) c17) (fun _ => by kernel_rfl) ?_
    refine pl_nil ?_
    refine au_block ?_
    refine au_then ?_
    refine rg_lit ?_
    refine pl_val (want_no rfl) (some 23) rfl (.int .i64 1) (fun _ => by kernel_rfl) ?_
    refine pl_val (want_no rfl) (some 24) rfl (.int .i64 0) (fun _ => by kernel_rfl) ?_
    refine pl_val (want_no rfl) (some 4) rfl (.int .i64 0) (fun _ => by kernel_rfl) ?_
    refine pl_nil ?_
    refine au_then ?_
    refine rounds_go ?_
    refine wp_seq ?_
    refine wp_seq ?_
    refine rg_lit ?_
    refine pl_val (want_no rfl) (some 21) rfl (.int .i64 0) (fun _ => by kernel_rfl) ?_
    refine pl_val (want_no rfl) (some 22) rfl (.bool true) (fun _ => by kernel_rfl) ?_
    refine pl_nil ?_
    refine au_then ?_
    refine wp_cond_true (by kernel_rfl) ?_
    refine wp_skip ?_
    refine au_then ?_
    refine wp_seq ?_
    refine wp_block ?_
    refine wp_seq ?_
    refine rg_lit ?_
    refine pl_val (want_no rfl) (some 5) rfl (.int .u64 0) (fun _ => by kernel_rfl) ?_
    refine pl_nil ?_
    refine au_then ?_
    refine wp_seq ?_
    refine wp_seq ?_
    refine rg_lit ?_
    refine pl_val (want_no rfl) (some 25) rfl (.int .i64 0) (fun _ => by kernel_rfl) ?_
    refine pl_val (want_no rfl) (some 26) rfl (.bool true) (fun _ => by kernel_rfl) ?_
    refine pl_nil ?_
    refine au_then ?_
    refine wp_cond_true (by kernel_rfl) ?_
    refine rg_lit ?_
    refine pl_val (want_no rfl) (some 27) rfl (.string s) (fun _ => by kernel_rfl) ?_
    refine pl_val (want_no rfl) (some 28) rfl (.int .i64 (s.size : Int)) (fun _ => by kernel_rfl) ?_
    refine pl_val (want_no rfl) (some 29) rfl (.int .u64 (cv .u64 (s.size : Int))) (fun _ => by kernel_rfl) ?_
    refine pl_val (want_no rfl) (some 30) rfl (.int .u64 (um 8 (cv .u64 (s.size : Int)))) (fun _ => by kernel_rfl) ?_
    refine pl_val (want_no rfl) (some 31) rfl (.int .i64 0) (fun _ => by kernel_rfl) ?_
    refine pl_val (want_no rfl) (some 32) rfl (.int .i64 0) (fun _ => by kernel_rfl) ?_
    refine pl_val (want_no rfl) (some 33) rfl (.int .u64 0) (fun _ => by kernel_rfl) ?_
    refine pl_val (want_no rfl) (some 34) rfl (.int .u64 (sr (um 8 (cv .u64 (s.size : Int))) 0)) (fun _ => by kernel_rfl) ?_
    refine pl_val (want_no rfl) (some 5) rfl (.int .u64 (sr (um 8 (cv .u64 (s.size : Int))) 0)) (fun _ => by kernel_rfl) ?_
    refine pl_nil ?_
    refine au_then ?_
    refine rg_lit ?_
    refine pl_val (want_no rfl) (some 35) rfl (.slice (some ⟨e17, 0, none⟩) ((((((((((((((((s.size + 1 + ((239 - s.size % 128) % 128)) + 1) + 1) + 1) + 1) + 1) + 1) + 1) + 1) + 1) + 1) + 1) + 1) + 1) + 1) + 1) c17) (fun _ => by kernel_rfl) ?_
    refine pl_val (want_no rfl) (some 36) rfl (.int .u64 (sr (um 8 (cv .u64 (s.size : Int))) 0)) (fun _ => by kernel_rfl) ?_
    refine pl_val (want_no rfl) (some 37) rfl (.int .u8 (cv .u8 (sr (um 8 (cv .u64 (s.size : Int))) 0))) (fun _ => by kernel_rfl) ?_
    refine pl_mk M (want_no rfl) (some 38) rfl (fun g18 => .slice (some ⟨g18, 0, none⟩) 1 1) (.cells (av 1 (fun _ => .int .u8 (cv .u8 (sr (um 8 (cv .u64 (s.size : Int))) 0)))) 5) (fun _ => by kernel_rfl) ?_
    intro g18 u36 M
    replace M : Mem ⟨w, none⟩ [⟨g3, .cells (av 1 (fun _ => .int .u8 0)) 5⟩, ⟨g4, .cells (av 1 (fun _ => .int .u8 0)) 5⟩, ⟨g5, .cells (av 1 (fun _ => .int .u8 0)) 5⟩, ⟨g6, .cells (av 1 (fun _ => .int .u8 0)) 5⟩, ⟨g7, .cells (av 1 (fun _ => .int .u8 0)) 5⟩, ⟨g8, .cells (av 1 (fun _ => .int .u8 0)) 5⟩, ⟨g9, .cells (av 1 (fun _ => .int .u8 0)) 5⟩, ⟨g10, .cells (av 1 (fun _ => .int .u8 0)) 5⟩, ⟨g11, .cells (av 1 (fun _ => .int .u8 (cv .u8 (sr (um 8 (cv .u64 (s.size : Int))) 56)))) 5⟩, ⟨g12, .cells (av 1 (fun _ => .int .u8 (cv .u8 (sr (um 8 (cv .u64 (s.size : Int))) 48)))) 5⟩, ⟨g13, .cells (av 1 (fun _ => .int .u8 (cv .u8 (sr (um 8 (cv .u64 (s.size : Int))) 40)))) 5⟩, ⟨g14, .cells (av 1 (fun _ => .int .u8 (cv .u8 (sr (um 8 (cv .u64 (s.size : Int))) 32)))) 5⟩, ⟨g15, .cells (av 1 (fun _ => .int .u8 (cv .u8 (sr (um 8 (cv .u64 (s.size : Int))) 24)))) 5⟩, ⟨g16, .cells (av 1 (fun _ => .int .u8 (cv .u8 (sr (um 8 (cv .u64 (s.size : Int))) 16)))) 5⟩, ⟨g17, .cells (av 1 (fun _ => .int .u8 (cv .u8 (sr (um 8 (cv .u64 (s.size : Int))) 8)))) 5⟩, ⟨e17, Y17⟩, ⟨g18, .cells (av 1 (fun _ => .int .u8 (cv .u8 (sr (um 8 (cv .u64 (s.size : Int))) 0)))) 5⟩] u36 := M
    refine pl_app M (want_no rfl) (some 39) rfl 41 41 5 _ (.int .u8 0) Tryd.underlying41 info5_eq info5_z (by kernel_rfl) (by decide +kernel) rfl 15 e17 (((((((((((((((((s.size + 1 + ((239 - s.size % 128) % 128)) + 1) + 1) + 1) + 1) + 1) + 1) + 1) + 1) + 1) + 1) + 1) + 1) + 1) + 1) + 1)) c17 Y17 (vs8 (sb s ++ [128] ++ List.replicate ((239 - s.size % 128) % 128) 0 ++ [0] ++ [0] ++ [0] ++ [0] ++ [0] ++ [0] ++ [0] ++ [0] ++ [(cv .u8 (sr (um 8 (cv .u64 (s.size : Int))) 56))] ++ [(cv .u8 (sr (um 8 (cv .u64 (s.size : Int))) 48))] ++ [(cv .u8 (sr (um 8 (cv .u64 (s.size : Int))) 40))] ++ [(cv .u8 (sr (um 8 (cv .u64 (s.size : Int))) 32))] ++ [(cv .u8 (sr (um 8 (cv .u64 (s.size : Int))) 24))] ++ [(cv .u8 (sr (um 8 (cv .u64 (s.size : Int))) 16))] ++ [(cv .u8 (sr (um 8 (cv .u64 (s.size : Int))) 8))])) rfl hY17 (by rw [vs8_length]; simp [sb_length]; omega) (by omega) 16 g18 5 (.int .u8 (cv .u8 (sr (um 8 (cv .u64 (s.size : Int))) 0))) rfl rfl (fun _ => by kernel_rfl) ?_
    intro e18 c18 Y18 u37 hY18 M
    rw [vs8_app] at hY18
    replace M : Mem ⟨w, none⟩ [⟨g3, .cells (av 1 (fun _ => .int .u8 0)) 5⟩, ⟨g4, .cells (av 1 (fun _ => .int .u8 0)) 5⟩, ⟨g5, .cells (av 1 (fun _ => .int .u8 0)) 5⟩, ⟨g6, .cells (av 1 (fun _ => .int .u8 0)) 5⟩, ⟨g7, .cells (av 1 (fun _ => .int .u8 0)) 5⟩, ⟨g8, .cells (av 1 (fun _ => .int .u8 0)) 5⟩, ⟨g9, .cells (av 1 (fun _ => .int .u8 0)) 5⟩, ⟨g10, .cells (av 1 (fun _ => .int .u8 0)) 5⟩, ⟨g11, .cells (av 1 (fun _ => .int .u8 (cv .u8 (sr (um 8 (cv .u64 (s.size : Int))) 56)))) 5⟩, ⟨g12, .cells (av 1 (fun _ => .int .u8 (cv .u8 (sr (um 8 (cv .u64 (s.size : Int))) 48)))) 5⟩, ⟨g13, .cells (av 1 (fun _ => .int .u8 (cv .u8 (sr (um 8 (cv .u64 (s.size : Int))) 40)))) 5⟩, ⟨g14, .cells (av 1 (fun _ => .int .u8 (cv .u8 (sr (um 8 (cv .u64 (s.size : Int))) 32)))) 5⟩, ⟨g15, .cells (av 1 (fun _ => .int .u8 (cv .u8 (sr (um 8 (cv .u64 (s.size : Int))) 24)))) 5⟩, ⟨g16, .cells (av 1 (fun _ => .int .u8 (cv .u8 (sr (um 8 (cv .u64 (s.size : Int))) 16)))) 5⟩, ⟨g17, .cells (av 1 (fun _ => .int .u8 (cv .u8 (sr (um 8 (cv .u64 (s.size : Int))) 8)))) 5⟩, ⟨g18, .cells (av 1 (fun _ => .int .u8 (cv .u8 (sr (um 8 (cv .u64 (s.size : Int))) 0)))) 5⟩, ⟨e18, Y18⟩] u37 := M
    refine pl_val (want_no rfl) (some 3) rfl (.slice (some ⟨e18, 0, none⟩) (((((((((((((((((s.size + 1 + ((239 - s.size % 128) % 128)) + 1) + 1) + 1) + 1) + 1) + 1) + 1) + 1) + 1) + 1) + 1) + 1) + 1) + 1) + 1) + 1) c18) (fun _ => by kernel_rfl) ?_
    refine pl_nil ?_
    refine au_block ?_
    refine au_then ?_
    refine rg_lit ?_
    refine pl_val (want_no rfl) (some 23) rfl (.int .i64 0) (fun _ => by kernel_rfl) ?_
    refine pl_val (want_no rfl) (some 24) rfl (.int .i64 (-1)) (fun _ => by kernel_rfl) ?_
    refine pl_val (want_no rfl) (some 4) rfl (.int .i64 (-1)) (fun _ => by kernel_rfl) ?_
    refine pl_nil ?_
    refine au_then ?_
    refine rounds_go ?_
    refine wp_seq ?_
    refine wp_seq ?_
    refine rg_lit ?_
    refine pl_val (want_no rfl) (some 21) rfl (.int .i64 (-1)) (fun _ => by kernel_rfl) ?_
    refine pl_val (want_no rfl) (some 22) rfl (.bool false) (fun _ => by kernel_rfl) ?_
    refine pl_nil ?_
    refine au_then ?_
    refine wp_cond_false (by kernel_rfl) ?_
    refine wp_exit ?_
    refine au_then_exit ?_
    refine au_then_exit ?_
    refine au_block_exit ?_
    refine au_then ?_
    refine wp_seq ?_
    refine rg_lit ?_
    refine pl_call M (want_no rfl) (some 40) rfl 11 #[] (.agg (av 8 (w64 HB))) (fun _ => by kernel_rfl) (fun w M => c_begin w M.laid) ?_
    intro u38 M
    refine pl_new M (want_no rfl) (some 6) rfl (.cells (av 8 (w64 fun _ => 0)) 28) (fun _ => by kernel_rfl) ?_
    intro g19 u39 M
    replace M : Mem ⟨w, none⟩ [⟨g3, .cells (av 1 (fun _ => .int .u8 0)) 5⟩, ⟨g4, .cells (av 1 (fun _ => .int .u8 0)) 5⟩, ⟨g5, .cells (av 1 (fun _ => .int .u8 0)) 5⟩, ⟨g6, .cells (av 1 (fun _ => .int .u8 0)) 5⟩, ⟨g7, .cells (av 1 (fun _ => .int .u8 0)) 5⟩, ⟨g8, .cells (av 1 (fun _ => .int .u8 0)) 5⟩, ⟨g9, .cells (av 1 (fun _ => .int .u8 0)) 5⟩, ⟨g10, .cells (av 1 (fun _ => .int .u8 0)) 5⟩, ⟨g11, .cells (av 1 (fun _ => .int .u8 (cv .u8 (sr (um 8 (cv .u64 (s.size : Int))) 56)))) 5⟩, ⟨g12, .cells (av 1 (fun _ => .int .u8 (cv .u8 (sr (um 8 (cv .u64 (s.size : Int))) 48)))) 5⟩, ⟨g13, .cells (av 1 (fun _ => .int .u8 (cv .u8 (sr (um 8 (cv .u64 (s.size : Int))) 40)))) 5⟩, ⟨g14, .cells (av 1 (fun _ => .int .u8 (cv .u8 (sr (um 8 (cv .u64 (s.size : Int))) 32)))) 5⟩, ⟨g15, .cells (av 1 (fun _ => .int .u8 (cv .u8 (sr (um 8 (cv .u64 (s.size : Int))) 24)))) 5⟩, ⟨g16, .cells (av 1 (fun _ => .int .u8 (cv .u8 (sr (um 8 (cv .u64 (s.size : Int))) 16)))) 5⟩, ⟨g17, .cells (av 1 (fun _ => .int .u8 (cv .u8 (sr (um 8 (cv .u64 (s.size : Int))) 8)))) 5⟩, ⟨g18, .cells (av 1 (fun _ => .int .u8 (cv .u8 (sr (um 8 (cv .u64 (s.size : Int))) 0)))) 5⟩, ⟨e18, Y18⟩, ⟨g19, .cells (av 8 (w64 fun _ => 0)) 28⟩] u39 := M
    refine pl_put M (want_no rfl) rfl 28 _ _ rfl 17 g19 0 (by kernel_rfl) 8 28 (w64 fun _ => 0) rfl 8 (w64 HB) (w64 HB) (by kernel_rfl) inz28 (by decide) (fun _ _ => rfl) (fun j hj => by rw [if_pos (by omega), Nat.sub_zero]) ?_
    intro u40 M
    replace M : Mem ⟨w, none⟩ [⟨g3, .cells (av 1 (fun _ => .int .u8 0)) 5⟩, ⟨g4, .cells (av 1 (fun _ => .int .u8 0)) 5⟩, ⟨g5, .cells (av 1 (fun _ => .int .u8 0)) 5⟩, ⟨g6, .cells (av 1 (fun _ => .int .u8 0)) 5⟩, ⟨g7, .cells (av 1 (fun _ => .int .u8 0)) 5⟩, ⟨g8, .cells (av 1 (fun _ => .int .u8 0)) 5⟩, ⟨g9, .cells (av 1 (fun _ => .int .u8 0)) 5⟩, ⟨g10, .cells (av 1 (fun _ => .int .u8 0)) 5⟩, ⟨g11, .cells (av 1 (fun _ => .int .u8 (cv .u8 (sr (um 8 (cv .u64 (s.size : Int))) 56)))) 5⟩, ⟨g12, .cells (av 1 (fun _ => .int .u8 (cv .u8 (sr (um 8 (cv .u64 (s.size : Int))) 48)))) 5⟩, ⟨g13, .cells (av 1 (fun _ => .int .u8 (cv .u8 (sr (um 8 (cv .u64 (s.size : Int))) 40)))) 5⟩, ⟨g14, .cells (av 1 (fun _ => .int .u8 (cv .u8 (sr (um 8 (cv .u64 (s.size : Int))) 32)))) 5⟩, ⟨g15, .cells (av 1 (fun _ => .int .u8 (cv .u8 (sr (um 8 (cv .u64 (s.size : Int))) 24)))) 5⟩, ⟨g16, .cells (av 1 (fun _ => .int .u8 (cv .u8 (sr (um 8 (cv .u64 (s.size : Int))) 16)))) 5⟩, ⟨g17, .cells (av 1 (fun _ => .int .u8 (cv .u8 (sr (um 8 (cv .u64 (s.size : Int))) 8)))) 5⟩, ⟨g18, .cells (av 1 (fun _ => .int .u8 (cv .u8 (sr (um 8 (cv .u64 (s.size : Int))) 0)))) 5⟩, ⟨e18, Y18⟩, ⟨g19, .cells (av 8 (w64 HB)) 28⟩] u40 := M
    refine pl_nil ?_
    refine au_then ?_
    refine wp_seq ?_
    refine wp_seq ?_
    refine rg_lit ?_
    refine pl_val (want_no rfl) (some 7) rfl (.int .i64 0) (fun _ => by kernel_rfl) ?_
    refine pl_nil ?_
    refine au_then ?_
    refine wp_block ?_
    replace M := M.drop (L' := [⟨e18, Y18⟩, ⟨g19, .cells (av 8 (w64 HB)) 28⟩]) (.cons _ (.cons _ (.cons _ (.cons _ (.cons _ (.cons _ (.cons _ (.cons _ (.cons _ (.cons _ (.cons _ (.cons _ (.cons _ (.cons _ (.cons _ (.cons _ (.cons_cons _ (.cons_cons _ (.slnil)))))))))))))))))))
    have hd : vs8 (sb s ++ [128] ++ List.replicate ((239 - s.size % 128) % 128) 0 ++ [0] ++ [0] ++ [0] ++ [0] ++ [0] ++ [0] ++ [0] ++ [0] ++ [(cv .u8 (sr (um 8 (cv .u64 (s.size : Int))) 56))] ++ [(cv .u8 (sr (um 8 (cv .u64 (s.size : Int))) 48))] ++ [(cv .u8 (sr (um 8 (cv .u64 (s.size : Int))) 40))] ++ [(cv .u8 (sr (um 8 (cv .u64 (s.size : Int))) 32))] ++ [(cv .u8 (sr (um 8 (cv .u64 (s.size : Int))) 24))] ++ [(cv .u8 (sr (um 8 (cv .u64 (s.size : Int))) 16))] ++ [(cv .u8 (sr (um 8 (cv .u64 (s.size : Int))) 8))] ++ [(cv .u8 (sr (um 8 (cv .u64 (s.size : Int))) 0))]) = vs8 (dl s) := by unfold dl LenB; simp
    rw [hd] at hY18
    obtain ⟨NB, hNB⟩ : ∃ NB, NB = (dl s).length / 128 := ⟨_, rfl⟩
    have hlen : (dl s).length = 128 * NB := by have := dl_len s; omega
    have hlen2 : (((((((((((((((((s.size + 1 + ((239 - s.size % 128) % 128)) + 1) + 1) + 1) + 1) + 1) + 1) + 1) + 1) + 1) + 1) + 1) + 1) + 1) + 1) + 1) + 1) = 128 * NB := by have h := dl_length s; omega
    have hcap := hY18.le
    rw [vs8_length, hlen] at hcap
    have hsz : 128 * NB < 1000000 := by rw [← hlen, dl_length]; omega
    refine au_loop (fun j a w' => ∃ (v2 : Nat → Value), a = ⟨#[.string s, undef, .string ⟨#[]⟩, .slice (some ⟨e18, 0, none⟩) (((((((((((((((((s.size + 1 + ((239 - s.size % 128) % 128)) + 1) + 1) + 1) + 1) + 1) + 1) + 1) + 1) + 1) + 1) + 1) + 1) + 1) + 1) + 1) + 1) c18, .int .i64 (-1), .int .u64 (sr (um 8 (cv .u64 (s.size : Int))) 0), .pointer (some ⟨g19, 0, none⟩), .int .i64 ((128 * j : Nat) : Int), undef, undef, .string s, .slice (some ⟨e0, 0, none⟩) s.size c0, .slice (some ⟨g1, 0, none⟩) 1 1, .slice (some ⟨e1, 0, none⟩) (s.size + 1) c1, .slice (some ⟨g, 0, none⟩) (s.size + 1 + ((239 - s.size % 128) % 128)) cap, .int .i64 (((s.size + 1 + ((239 - s.size % 128) % 128)) : Nat) : Int), .int .i64 (((s.size + 1 + ((239 - s.size % 128) % 128)) % 128 : Nat) : Int), .bool false, v1 18, v1 19, v1 20, .int .i64 (-1), .bool false, .int .i64 0, .int .i64 (-1), .int .i64 0, .bool true, .string s, .int .i64 (s.size : Int), .int .u64 (cv .u64 (s.size : Int)), .int .u64 (um 8 (cv .u64 (s.size : Int))), .int .i64 0, .int .i64 0, .int .u64 0, .int .u64 (sr (um 8 (cv .u64 (s.size : Int))) 0), .slice (some ⟨e17, 0, none⟩) ((((((((((((((((s.size + 1 + ((239 - s.size % 128) % 128)) + 1) + 1) + 1) + 1) + 1) + 1) + 1) + 1) + 1) + 1) + 1) + 1) + 1) + 1) + 1) c17, .int .u64 (sr (um 8 (cv .u64 (s.size : Int))) 0), .int .u8 (cv .u8 (sr (um 8 (cv .u64 (s.size : Int))) 0)), .slice (some ⟨g18, 0, none⟩) 1 1, .slice (some ⟨e18, 0, none⟩) (((((((((((((((((s.size + 1 + ((239 - s.size % 128) % 128)) + 1) + 1) + 1) + 1) + 1) + 1) + 1) + 1) + 1) + 1) + 1) + 1) + 1) + 1) + 1) + 1) c18, .agg (av 8 (w64 HB)), v2 41, v2 42, v2 43, v2 44, v2 45, v2 46, v2 47, v2 48, v2 49, v2 50, v2 51, v2 52, v2 53, undef, undef, undef, undef, undef, undef, undef, undef, undef, undef, undef, undef, undef, undef, undef, undef, undef, undef, undef, undef], []⟩ ∧ Mem ⟨w, none⟩ [⟨e18, Y18⟩, ⟨g19, .cells (av 8 (w64 (pcs (dl s) j))) 28⟩] w') NB ⟨fun k_ => ([undef, undef, undef, undef, undef, undef, undef, undef, undef, undef, undef, undef, undef] : List Value).getD (k_ - 41) undef, by kernel_rfl, M⟩ ?_ ?_
    · intro j a u0 hj hI
      obtain ⟨v2, rfl, M⟩ := hI
      refine wp_seq ?_
      refine wp_seq ?_
      refine rg_lit ?_
      refine pl_val (want_no rfl) (some 41) rfl (.int .i64 ((128 * j : Nat) : Int)) (fun _ => by kernel_rfl) ?_
      refine pl_val (want_no rfl) (some 42) rfl (.slice (some ⟨e18, 0, none⟩) (((((((((((((((((s.size + 1 + ((239 - s.size % 128) % 128)) + 1) + 1) + 1) + 1) + 1) + 1) + 1) + 1) + 1) + 1) + 1) + 1) + 1) + 1) + 1) + 1) c18) (fun _ => by kernel_rfl) ?_
      refine pl_val (want_no rfl) (some 43) rfl (.int .i64 (((((((((((((((((((s.size + 1 + ((239 - s.size % 128) % 128)) + 1) + 1) + 1) + 1) + 1) + 1) + 1) + 1) + 1) + 1) + 1) + 1) + 1) + 1) + 1) + 1) : Nat) : Int)) (fun _ => by kernel_rfl) ?_
      refine pl_val (want_no rfl) (some 44) rfl (.bool true) (fun w => Eq.trans (b := .ok (.value (.bool (decide (((128 * j : Nat) : Int) < (((((((((((((((((((s.size + 1 + ((239 - s.size % 128) % 128)) + 1) + 1) + 1) + 1) + 1) + 1) + 1) + 1) + 1) + 1) + 1) + 1) + 1) + 1) + 1) + 1) : Nat) : Int))))) w) (by kernel_rfl) (by rw [decide_eq_true (by omega)])) ?_
      refine pl_nil ?_
      refine au_then ?_
      refine wp_cond_true (by kernel_rfl) ?_
      refine wp_skip ?_
      refine au_then ?_
      refine wp_seq ?_
      refine wp_block ?_
      refine rg_tail M 7 (by kernel_rfl) (by kernel_rfl) ?_
      simp only [List.take_succ_cons, List.take_zero]
      refine k_load M (want_no rfl) (some 47) rfl 28 _ rfl 1 g19 0 (by kernel_rfl) 8 28 (w64 (pcs (dl s) j)) rfl 8 (w64 (pcs (dl s) j)) (fun j _ => by rw [Nat.zero_add]) (by decide) _ Tryd.underlying28 rfl inz28 ?_
      refine k_val (want_no rfl) (some 48) rfl (.slice (some ⟨e18, 0, none⟩) (((((((((((((((((s.size + 1 + ((239 - s.size % 128) % 128)) + 1) + 1) + 1) + 1) + 1) + 1) + 1) + 1) + 1) + 1) + 1) + 1) + 1) + 1) + 1) + 1) c18) (fun _ => by kernel_rfl) ?_
      refine k_val (want_no rfl) (some 49) rfl (.int .i64 ((128 * j : Nat) : Int)) (fun _ => by kernel_rfl) ?_
      refine k_val (want_no rfl) (some 50) rfl (.int .i64 ((128 * j : Nat) : Int)) (fun _ => by kernel_rfl) ?_
      refine k_val (want_no rfl) (some 51) rfl (.int .i64 ((128 * j + 128 : Nat) : Int)) (fun w => Eq.trans (b := .ok (.value (.int .i64 (IntKind.wrap .i64 (((128 * j : Nat) : Int) + 128)))) w) (by kernel_rfl) (by rw [wrap64 (by omega) (by omega)]; congr 3 <;> omega)) ?_
      refine k_val (want_no rfl) (some 52) rfl (.slice (some ⟨e18, (128 * j), none⟩) 128 (c18 - 128 * j)) (fun w => Eq.trans (run_slS 41 5 Tryd.underlying41 inz5 _ _ _ rfl e18 ((((((((((((((((((s.size + 1 + ((239 - s.size % 128) % 128)) + 1) + 1) + 1) + 1) + 1) + 1) + 1) + 1) + 1) + 1) + 1) + 1) + 1) + 1) + 1) + 1)) c18 (by kernel_rfl) .i64 .i64 (128 * j) (128 * j + 128) (by kernel_rfl) (by kernel_rfl) (by omega) (by omega) w) (by rw [show 128 * j + 128 - 128 * j = 128 by omega])) ?_
      refine k_call M (want_no rfl) (some 53) rfl 17 #[.agg (av 8 (w64 (pcs (dl s) j))), .slice (some ⟨e18, (128 * j), none⟩) 128 (c18 - 128 * j)] (.agg (av 8 (w64 (pcs (dl s) (j + 1))))) (fun _ => by kernel_rfl) (fun w M => c_piece (pcs (dl s) j) (fun i => (dl s).getD (128 * j + i) 0) e18 (128 * j) _ w M.laid (fun i hi => hY18.cell (M.get 0 rfl) (by unfold vs8; rw [List.getElem?_map, List.getD_eq_getElem?_getD, List.getElem?_eq_getElem (by omega)]; rfl))) ?_
      refine kl_nil ?_
      intro u41 M
      replace M : Mem ⟨w, none⟩ [⟨e18, Y18⟩, ⟨g19, .cells (av 8 (w64 (pcs (dl s) j))) 28⟩] u41 := M
      refine pl_put M (want_no rfl) rfl 28 _ _ rfl 1 g19 0 (by kernel_rfl) 8 28 (w64 (pcs (dl s) j)) rfl 8 (w64 (pcs (dl s) (j + 1))) (w64 (pcs (dl s) (j + 1))) (by kernel_rfl) inz28 (by decide) (fun _ _ => rfl) (fun j hj => by rw [if_pos (by omega), Nat.sub_zero]) ?_
      intro u42 M
      replace M : Mem ⟨w, none⟩ [⟨e18, Y18⟩, ⟨g19, .cells (av 8 (w64 (pcs (dl s) (j + 1)))) 28⟩] u42 := M
      refine pl_nil ?_
      refine au_block ?_
      refine au_then ?_
      refine rg_lit ?_
      refine pl_val (want_no rfl) (some 45) rfl (.int .i64 ((128 * j : Nat) : Int)) (fun _ => by kernel_rfl) ?_
      refine pl_val (want_no rfl) (some 46) rfl (.int .i64 ((128 * (j + 1) : Nat) : Int)) (fun w => Eq.trans (b := .ok (.value (.int .i64 (IntKind.wrap .i64 (((128 * j : Nat) : Int) + 128)))) w) (by kernel_rfl) (by rw [wrap64 (by omega) (by omega)]; congr 3 <;> omega)) ?_
      refine pl_val (want_no rfl) (some 7) rfl (.int .i64 ((128 * (j + 1) : Nat) : Int)) (fun _ => by kernel_rfl) ?_
      refine pl_nil ?_
      refine au_then ?_
      exact ⟨fun k_ => ([.int .i64 ((128 * j : Nat) : Int), .slice (some ⟨e18, 0, none⟩) (((((((((((((((((s.size + 1 + ((239 - s.size % 128) % 128)) + 1) + 1) + 1) + 1) + 1) + 1) + 1) + 1) + 1) + 1) + 1) + 1) + 1) + 1) + 1) + 1) c18, .int .i64 (((((((((((((((((((s.size + 1 + ((239 - s.size % 128) % 128)) + 1) + 1) + 1) + 1) + 1) + 1) + 1) + 1) + 1) + 1) + 1) + 1) + 1) + 1) + 1) + 1) : Nat) : Int), .bool true, .int .i64 ((128 * j : Nat) : Int), .int .i64 ((128 * (j + 1) : Nat) : Int), .agg (av 8 (w64 (pcs (dl s) j))), .slice (some ⟨e18, 0, none⟩) (((((((((((((((((s.size + 1 + ((239 - s.size % 128) % 128)) + 1) + 1) + 1) + 1) + 1) + 1) + 1) + 1) + 1) + 1) + 1) + 1) + 1) + 1) + 1) + 1) c18, .int .i64 ((128 * j : Nat) : Int), .int .i64 ((128 * j : Nat) : Int), .int .i64 ((128 * j + 128 : Nat) : Int), .slice (some ⟨e18, (128 * j), none⟩) 128 (c18 - 128 * j), .agg (av 8 (w64 (pcs (dl s) (j + 1))))] : List Value).getD (k_ - 41) undef, by kernel_rfl, M⟩
    · intro a u0 hI
      obtain ⟨v2, rfl, M⟩ := hI
      refine wp_seq ?_
      refine wp_seq ?_
      refine rg_lit ?_
      refine pl_val (want_no rfl) (some 41) rfl (.int .i64 ((128 * NB : Nat) : Int)) (fun _ => by kernel_rfl) ?_
      refine pl_val (want_no rfl) (some 42) rfl (.slice (some ⟨e18, 0, none⟩) (((((((((((((((((s.size + 1 + ((239 - s.size % 128) % 128)) + 1) + 1) + 1) + 1) + 1) + 1) + 1) + 1) + 1) + 1) + 1) + 1) + 1) + 1) + 1) + 1) c18) (fun _ => by kernel_rfl) ?_
      refine pl_val (want_no rfl) (some 43) rfl (.int .i64 (((((((((((((((((((s.size + 1 + ((239 - s.size % 128) % 128)) + 1) + 1) + 1) + 1) + 1) + 1) + 1) + 1) + 1) + 1) + 1) + 1) + 1) + 1) + 1) + 1) : Nat) : Int)) (fun _ => by kernel_rfl) ?_
      refine pl_val (want_no rfl) (some 44) rfl (.bool false) (fun w => Eq.trans (b := .ok (.value (.bool (decide (((128 * NB : Nat) : Int) < (((((((((((((((((((s.size + 1 + ((239 - s.size % 128) % 128)) + 1) + 1) + 1) + 1) + 1) + 1) + 1) + 1) + 1) + 1) + 1) + 1) + 1) + 1) + 1) + 1) : Nat) : Int))))) w) (by kernel_rfl) (by rw [decide_eq_false (by omega)])) ?_
      refine pl_nil ?_
      refine au_then ?_
      refine wp_cond_false (by kernel_rfl) ?_
      refine wp_exit ?_
      refine au_then_exit ?_
      refine au_then_exit ?_
      refine au_block_exit ?_
      refine au_then ?_
      refine wp_seq ?_
      refine rg_lit ?_
      refine pl_val (want_no rfl) (some 8) rfl (.slice none 0 0) (fun _ => by kernel_rfl) ?_
      refine pl_nil ?_
      refine au_then ?_
      refine wp_seq ?_
      refine wp_seq ?_
      refine rg_lit ?_
      refine pl_val (want_no rfl) (some 9) rfl (.int .i64 0) (fun _ => by kernel_rfl) ?_
      refine pl_nil ?_
      refine au_then ?_
      refine wp_block ?_
      replace M := M.drop (L' := [⟨g19, .cells (av 8 (w64 (pcs (dl s) NB))) 28⟩]) (.cons _ (.cons_cons _ (.slnil)))
      refine au_loop (fun j a w' => ∃ (v3 : Nat → Value) (sl : Value), a = ⟨#[.string s, undef, .string ⟨#[]⟩, .slice (some ⟨e18, 0, none⟩) (((((((((((((((((s.size + 1 + ((239 - s.size % 128) % 128)) + 1) + 1) + 1) + 1) + 1) + 1) + 1) + 1) + 1) + 1) + 1) + 1) + 1) + 1) + 1) + 1) c18, .int .i64 (-1), .int .u64 (sr (um 8 (cv .u64 (s.size : Int))) 0), .pointer (some ⟨g19, 0, none⟩), .int .i64 ((128 * NB : Nat) : Int), sl, .int .i64 (j : Int), .string s, .slice (some ⟨e0, 0, none⟩) s.size c0, .slice (some ⟨g1, 0, none⟩) 1 1, .slice (some ⟨e1, 0, none⟩) (s.size + 1) c1, .slice (some ⟨g, 0, none⟩) (s.size + 1 + ((239 - s.size % 128) % 128)) cap, .int .i64 (((s.size + 1 + ((239 - s.size % 128) % 128)) : Nat) : Int), .int .i64 (((s.size + 1 + ((239 - s.size % 128) % 128)) % 128 : Nat) : Int), .bool false, v1 18, v1 19, v1 20, .int .i64 (-1), .bool false, .int .i64 0, .int .i64 (-1), .int .i64 0, .bool true, .string s, .int .i64 (s.size : Int), .int .u64 (cv .u64 (s.size : Int)), .int .u64 (um 8 (cv .u64 (s.size : Int))), .int .i64 0, .int .i64 0, .int .u64 0, .int .u64 (sr (um 8 (cv .u64 (s.size : Int))) 0), .slice (some ⟨e17, 0, none⟩) ((((((((((((((((s.size + 1 + ((239 - s.size % 128) % 128)) + 1) + 1) + 1) + 1) + 1) + 1) + 1) + 1) + 1) + 1) + 1) + 1) + 1) + 1) + 1) c17, .int .u64 (sr (um 8 (cv .u64 (s.size : Int))) 0), .int .u8 (cv .u8 (sr (um 8 (cv .u64 (s.size : Int))) 0)), .slice (some ⟨g18, 0, none⟩) 1 1, .slice (some ⟨e18, 0, none⟩) (((((((((((((((((s.size + 1 + ((239 - s.size % 128) % 128)) + 1) + 1) + 1) + 1) + 1) + 1) + 1) + 1) + 1) + 1) + 1) + 1) + 1) + 1) + 1) + 1) c18, .agg (av 8 (w64 HB)), .int .i64 ((128 * NB : Nat) : Int), .slice (some ⟨e18, 0, none⟩) (((((((((((((((((s.size + 1 + ((239 - s.size % 128) % 128)) + 1) + 1) + 1) + 1) + 1) + 1) + 1) + 1) + 1) + 1) + 1) + 1) + 1) + 1) + 1) + 1) c18, .int .i64 (((((((((((((((((((s.size + 1 + ((239 - s.size % 128) % 128)) + 1) + 1) + 1) + 1) + 1) + 1) + 1) + 1) + 1) + 1) + 1) + 1) + 1) + 1) + 1) + 1) : Nat) : Int), .bool false, v2 45, v2 46, v2 47, v2 48, v2 49, v2 50, v2 51, v2 52, v2 53, v3 54, v3 55, v3 56, v3 57, v3 58, v3 59, v3 60, v3 61, v3 62, v3 63, v3 64, v3 65, v3 66, v3 67, v3 68, v3 69, v3 70, v3 71, undef, undef], []⟩ ∧ ((j = 0 ∧ sl = .slice none 0 0 ∧ Mem ⟨w, none⟩ [⟨g19, .cells (av 8 (w64 (pcs (dl s) NB))) 28⟩] w') ∨ (∃ (g cap : Nat) (Z : Obj), sl = .slice (some ⟨g, 0, none⟩) j cap ∧ SB Z cap (vs8 (outL (pcs (dl s) NB) j)) ∧ Mem ⟨w, none⟩ [⟨g19, .cells (av 8 (w64 (pcs (dl s) NB))) 28⟩, ⟨g, Z⟩] w'))) 64 ⟨fun k_ => ([undef, undef, undef, undef, undef, undef, undef, undef, undef, undef, undef, undef, undef, undef, undef, undef, undef, undef] : List Value).getD (k_ - 54) undef, .slice none 0 0, by kernel_rfl, .inl ⟨rfl, rfl, M⟩⟩ ?_ ?_
      · intro j a u0 hj hI
        obtain ⟨v3, sl, rfl, hI⟩ := hI
        rcases hI with ⟨rfl, rfl, M⟩ | ⟨g, cap, Z, rfl, hZ, M⟩
        · skip
          refine wp_seq ?_
          refine wp_seq ?_
          refine rg_lit ?_
          refine pl_val (want_no rfl) (some 54) rfl (.int .i64 0) (fun _ => by kernel_rfl) ?_
          refine pl_val (want_no rfl) (some 55) rfl (.bool true) (fun _ => by kernel_rfl) ?_
          refine pl_nil ?_
          refine au_then ?_
          refine wp_cond_true (by kernel_rfl) ?_
          refine wp_skip ?_
          refine au_then ?_
          refine wp_seq ?_
          refine wp_block ?_
          refine rg_lit ?_
          refine pl_val (want_no rfl) (some 58) rfl (.slice none 0 0) (fun _ => by kernel_rfl) ?_
          refine pl_val (want_no rfl) (some 59) rfl (.int .i64 0) (fun _ => by kernel_rfl) ?_
          refine pl_val (want_no rfl) (some 60) rfl (.int .i64 0) (fun _ => by kernel_rfl) ?_
          refine pl_val (want_no rfl) (some 61) rfl (.pointer (some ⟨g19, 0, none⟩)) (fun _ => by kernel_rfl) ?_
          refine pl_cell M (want_no rfl) (some 62) rfl 25 _ rfl g19 0 (by kernel_rfl) (.int .u64 ((pcs (dl s) NB) 0)) (fun _ => by kernel_rfl) (fun w M => M.cell 0 rfl (by decide) rfl) ?_
          refine pl_val (want_no rfl) (some 63) rfl (.int .i64 0) (fun _ => by kernel_rfl) ?_
          refine pl_val (want_no rfl) (some 64) rfl (.int .i64 0) (fun _ => by kernel_rfl) ?_
          refine pl_val (want_no rfl) (some 65) rfl (.int .i64 0) (fun _ => by kernel_rfl) ?_
          refine pl_val (want_no rfl) (some 66) rfl (.int .i64 56) (fun _ => by kernel_rfl) ?_
          refine pl_val (want_no rfl) (some 67) rfl (.int .u64 56) (fun _ => by kernel_rfl) ?_
          refine pl_val (want_no rfl) (some 68) rfl (.int .u64 (sr ((pcs (dl s) NB) 0) 56)) (fun _ => by kernel_rfl) ?_
          refine pl_val (want_no rfl) (some 69) rfl (.int .u8 (cv .u8 (sr ((pcs (dl s) NB) 0) 56))) (fun _ => by kernel_rfl) ?_
          refine pl_mk M (want_no rfl) (some 70) rfl (fun g20 => .slice (some ⟨g20, 0, none⟩) 1 1) (.cells (av 1 (fun _ => .int .u8 (cv .u8 (sr ((pcs (dl s) NB) 0) 56)))) 5) (fun _ => by kernel_rfl) ?_
          intro g20 u43 M
          replace M : Mem ⟨w, none⟩ [⟨g19, .cells (av 8 (w64 (pcs (dl s) NB))) 28⟩, ⟨g20, .cells (av 1 (fun _ => .int .u8 (cv .u8 (sr ((pcs (dl s) NB) 0) 56)))) 5⟩] u43 := M
          refine pl_app0 M (want_no rfl) (some 71) rfl 41 41 5 _ (.int .u8 0) Tryd.underlying41 info5_eq info5_z (by kernel_rfl) (by decide +kernel) rfl 1 g20 5 (.int .u8 (cv .u8 (sr ((pcs (dl s) NB) 0) 56))) rfl (fun _ => by kernel_rfl) ?_
          intro e19 c19 Y19 u44 hY19 M
          replace M : Mem ⟨w, none⟩ [⟨g19, .cells (av 8 (w64 (pcs (dl s) NB))) 28⟩, ⟨g20, .cells (av 1 (fun _ => .int .u8 (cv .u8 (sr ((pcs (dl s) NB) 0) 56)))) 5⟩, ⟨e19, Y19⟩] u44 := M
          refine pl_val (want_no rfl) (some 8) rfl (.slice (some ⟨e19, 0, none⟩) 1 c19) (fun _ => by kernel_rfl) ?_
          refine pl_nil ?_
          refine au_block ?_
          refine au_then ?_
          refine rg_lit ?_
          refine pl_val (want_no rfl) (some 56) rfl (.int .i64 0) (fun _ => by kernel_rfl) ?_
          refine pl_val (want_no rfl) (some 57) rfl (.int .i64 1) (fun _ => by kernel_rfl) ?_
          refine pl_val (want_no rfl) (some 9) rfl (.int .i64 1) (fun _ => by kernel_rfl) ?_
          refine pl_nil ?_
          refine au_then ?_
          exact ⟨fun k_ => ([.int .i64 0, .bool true, .int .i64 0, .int .i64 1, .slice none 0 0, .int .i64 0, .int .i64 0, .pointer (some ⟨g19, 0, none⟩), .int .u64 ((pcs (dl s) NB) 0), .int .i64 0, .int .i64 0, .int .i64 0, .int .i64 56, .int .u64 56, .int .u64 (sr ((pcs (dl s) NB) 0) 56), .int .u8 (cv .u8 (sr ((pcs (dl s) NB) 0) 56)), .slice (some ⟨g20, 0, none⟩) 1 1, .slice (some ⟨e19, 0, none⟩) 1 c19] : List Value).getD (k_ - 54) undef, _, by kernel_rfl, .inr ⟨e19, c19, Y19, rfl, hY19, M.drop (.cons_cons _ (.cons _ (.cons_cons _ (.slnil))))⟩⟩
        · skip
          refine wp_seq ?_
          refine wp_seq ?_
          refine rg_lit ?_
          refine pl_val (want_no rfl) (some 54) rfl (.int .i64 (j : Int)) (fun _ => by kernel_rfl) ?_
          refine pl_val (want_no rfl) (some 55) rfl (.bool true) (fun w => Eq.trans (b := .ok (.value (.bool (decide ((j : Int) < 64)))) w) (by kernel_rfl) (by rw [decide_eq_true (by omega)])) ?_
          refine pl_nil ?_
          refine au_then ?_
          refine wp_cond_true (by kernel_rfl) ?_
          refine wp_skip ?_
          refine au_then ?_
          refine wp_seq ?_
          refine wp_block ?_
          refine rg_lit ?_
          refine pl_val (want_no rfl) (some 58) rfl (.slice (some ⟨g, 0, none⟩) j cap) (fun _ => by kernel_rfl) ?_
          refine pl_val (want_no rfl) (some 59) rfl (.int .i64 (j : Int)) (fun _ => by kernel_rfl) ?_
          refine pl_val (want_no rfl) (some 60) rfl (.int .i64 ((j / 8 : Nat) : Int)) (fun w => Eq.trans (b := .ok (.value (.int .i64 (IntKind.wrap .i64 ((j : Int).tdiv 8)))) w) (by kernel_rfl) (by rw [quo8 j (by omega)])) ?_
          refine pl_val (want_no rfl) (some 61) rfl (.pointer (some ⟨g19, ((j / 8 : Nat)), none⟩)) (run_ix1 28 8 25 Tryd.underlying28 inz25 _ _ rfl g19 (by kernel_rfl) .i64 ((j / 8 : Nat)) (by kernel_rfl) (by omega)) ?_
          refine pl_cell M (want_no rfl) (some 62) rfl 25 _ rfl g19 ((j / 8 : Nat)) (by kernel_rfl) (.int .u64 ((pcs (dl s) NB) ((j / 8 : Nat)))) (fun _ => by kernel_rfl) (fun w M => M.cell 0 rfl (by omega) rfl) ?_
          refine pl_val (want_no rfl) (some 63) rfl (.int .i64 (j : Int)) (fun _ => by kernel_rfl) ?_
          refine pl_val (want_no rfl) (some 64) rfl (.int .i64 ((j % 8 : Nat) : Int)) (fun w => Eq.trans (b := .ok (.value (.int .i64 (Int.tmod (j : Int) 8))) w) (by kernel_rfl) (by rw [rem8])) ?_
          refine pl_val (want_no rfl) (some 65) rfl (.int .i64 ((8 * (j % 8) : Nat) : Int)) (fun w => Eq.trans (b := .ok (.value (.int .i64 (IntKind.wrap .i64 (8 * ((j % 8 : Nat) : Int))))) w) (by kernel_rfl) (by rw [wrap64 (by omega) (by omega)]; congr 3 <;> omega)) ?_
          refine pl_val (want_no rfl) (some 66) rfl (.int .i64 ((56 - 8 * (j % 8) : Nat) : Int)) (fun w => Eq.trans (b := .ok (.value (.int .i64 (IntKind.wrap .i64 (56 - ((8 * (j % 8) : Nat) : Int))))) w) (by kernel_rfl) (by rw [wrap64 (by omega) (by omega)]; congr 3 <;> omega)) ?_
          refine pl_val (want_no rfl) (some 67) rfl (.int .u64 ((56 - 8 * (j % 8) : Nat) : Int)) (fun w => Eq.trans (b := .ok (.value (.int .u64 (cv .u64 ((56 - 8 * (j % 8) : Nat) : Int)))) w) (by kernel_rfl) (by rw [cv_u64 _ (by omega)])) ?_
          refine pl_val (want_no rfl) (some 68) rfl (.int .u64 (sr ((pcs (dl s) NB) (j / 8)) (56 - 8 * (j % 8)))) (run_shrV 25 42 _ _ rfl _ .u64 (56 - 8 * (j % 8)) (by kernel_rfl) (by kernel_rfl) (by omega)) ?_
          refine pl_val (want_no rfl) (some 69) rfl (.int .u8 (cv .u8 (sr ((pcs (dl s) NB) (j / 8)) (56 - 8 * (j % 8))))) (fun _ => by kernel_rfl) ?_
          refine pl_mk M (want_no rfl) (some 70) rfl (fun g21 => .slice (some ⟨g21, 0, none⟩) 1 1) (.cells (av 1 (fun _ => .int .u8 (cv .u8 (sr ((pcs (dl s) NB) (j / 8)) (56 - 8 * (j % 8)))))) 5) (fun _ => by kernel_rfl) ?_
          intro g21 u45 M
          replace M : Mem ⟨w, none⟩ [⟨g19, .cells (av 8 (w64 (pcs (dl s) NB))) 28⟩, ⟨g, Z⟩, ⟨g21, .cells (av 1 (fun _ => .int .u8 (cv .u8 (sr ((pcs (dl s) NB) (j / 8)) (56 - 8 * (j % 8)))))) 5⟩] u45 := M
          refine pl_app M (want_no rfl) (some 71) rfl 41 41 5 _ (.int .u8 0) Tryd.underlying41 info5_eq info5_z (by kernel_rfl) (by decide +kernel) rfl 1 g (j) cap Z (vs8 (outL (pcs (dl s) NB) j)) rfl hZ (by rw [vs8_length, outL_length]) (by omega) 2 g21 5 (.int .u8 (cv .u8 (sr ((pcs (dl s) NB) (j / 8)) (56 - 8 * (j % 8))))) rfl rfl (fun _ => by kernel_rfl) ?_
          intro e20 c20 Y20 u46 hY20 M
          rw [vs8_app] at hY20
          replace M : Mem ⟨w, none⟩ [⟨g19, .cells (av 8 (w64 (pcs (dl s) NB))) 28⟩, ⟨g21, .cells (av 1 (fun _ => .int .u8 (cv .u8 (sr ((pcs (dl s) NB) (j / 8)) (56 - 8 * (j % 8)))))) 5⟩, ⟨e20, Y20⟩] u46 := M
          refine pl_val (want_no rfl) (some 8) rfl (.slice (some ⟨e20, 0, none⟩) (j + 1) c20) (fun _ => by kernel_rfl) ?_
          refine pl_nil ?_
          refine au_block ?_
          refine au_then ?_
          refine rg_lit ?_
          refine pl_val (want_no rfl) (some 56) rfl (.int .i64 (j : Int)) (fun _ => by kernel_rfl) ?_
          refine pl_val (want_no rfl) (some 57) rfl (.int .i64 ((j + 1 : Nat) : Int)) (fun w => Eq.trans (b := .ok (.value (.int .i64 (IntKind.wrap .i64 ((j : Int) + 1)))) w) (by kernel_rfl) (by rw [wrap64 (by omega) (by omega)]; congr 3)) ?_
          refine pl_val (want_no rfl) (some 9) rfl (.int .i64 ((j + 1 : Nat) : Int)) (fun _ => by kernel_rfl) ?_
          refine pl_nil ?_
          refine au_then ?_
          exact ⟨fun k_ => ([.int .i64 (j : Int), .bool true, .int .i64 (j : Int), .int .i64 ((j + 1 : Nat) : Int), .slice (some ⟨g, 0, none⟩) j cap, .int .i64 (j : Int), .int .i64 ((j / 8 : Nat) : Int), .pointer (some ⟨g19, ((j / 8 : Nat)), none⟩), .int .u64 ((pcs (dl s) NB) ((j / 8 : Nat))), .int .i64 (j : Int), .int .i64 ((j % 8 : Nat) : Int), .int .i64 ((8 * (j % 8) : Nat) : Int), .int .i64 ((56 - 8 * (j % 8) : Nat) : Int), .int .u64 ((56 - 8 * (j % 8) : Nat) : Int), .int .u64 (sr ((pcs (dl s) NB) (j / 8)) (56 - 8 * (j % 8))), .int .u8 (cv .u8 (sr ((pcs (dl s) NB) (j / 8)) (56 - 8 * (j % 8)))), .slice (some ⟨g21, 0, none⟩) 1 1, .slice (some ⟨e20, 0, none⟩) (j + 1) c20] : List Value).getD (k_ - 54) undef, _, by kernel_rfl, .inr ⟨e20, c20, Y20, rfl, hY20, M.drop (.cons_cons _ (.cons _ (.cons_cons _ (.slnil))))⟩⟩
      · intro a u0 hI
        obtain ⟨v3, sl, rfl, hI⟩ := hI
        rcases hI with ⟨h, _⟩ | ⟨g, cap, Z, rfl, hZ, M⟩
        · cases h
        · skip
          refine wp_seq ?_
          refine wp_seq ?_
          refine rg_lit ?_
          refine pl_val (want_no rfl) (some 54) rfl (.int .i64 64) (fun _ => by kernel_rfl) ?_
          refine pl_val (want_no rfl) (some 55) rfl (.bool false) (fun _ => by kernel_rfl) ?_
          refine pl_nil ?_
          refine au_then ?_
          refine wp_cond_false (by kernel_rfl) ?_
          refine wp_exit ?_
          refine au_then_exit ?_
          refine au_then_exit ?_
          refine au_block_exit ?_
          refine au_then ?_
          refine wp_seq ?_
          refine rg_lit ?_
          refine pl_val (want_no rfl) (some 72) rfl (.slice (some ⟨g, 0, none⟩) 64 cap) (fun _ => by kernel_rfl) ?_
          refine pl_back M (want_no rfl) (some 73) rfl _ rfl 1 g 64 cap (by kernel_rfl) Z rfl (outL (pcs (dl s) NB) 64) cap hZ (outL_length _ _) (outL_nn _ _) ?_
          rw [hNB]
          refine pl_val (want_no rfl) (some 2) rfl (.string (docV s)) (fun _ => by kernel_rfl) ?_
          refine pl_nil ?_
          refine au_then ?_
          refine wp_ret ?_
          exact bodyPost_ret (v := .string (docV s)) (results_tmp1 Tryd.results9 _ _ _ (by kernel_rfl)) (by kernel_rfl) ⟨rfl, below_grown M.old⟩


end Go.Proofs.YtghobmgdadpplaaDoor
