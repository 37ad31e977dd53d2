/- The bytes of words, the highest first: the walk of highestFirst. -/
import Derived.Test.YtghobmgdadpplaaDoorGrow
namespace Go.Proofs.YtghobmgdadpplaaDoor
open Go.RowKit

/-- The bytes of the first words. -/
def hV (f : Nat → Int) : Nat → List Value
  | 0 => []
  | j + 1 => hV f j ++ [.int .u8 (cv .u8 (sr (f j) 56))] ++ [.int .u8 (cv .u8 (sr (f j) 48))] ++ [.int .u8 (cv .u8 (sr (f j) 40))] ++ [.int .u8 (cv .u8 (sr (f j) 32))] ++ [.int .u8 (cv .u8 (sr (f j) 24))] ++ [.int .u8 (cv .u8 (sr (f j) 16))] ++ [.int .u8 (cv .u8 (sr (f j) 8))] ++ [.int .u8 (cv .u8 (sr (f j) 0))]
def hI (f : Nat → Int) : Nat → List Int
  | 0 => []
  | j + 1 => hI f j ++ [cv .u8 (sr (f j) 56), cv .u8 (sr (f j) 48), cv .u8 (sr (f j) 40), cv .u8 (sr (f j) 32), cv .u8 (sr (f j) 24), cv .u8 (sr (f j) 16), cv .u8 (sr (f j) 8), cv .u8 (sr (f j) 0)]
theorem hV_eq (f : Nat → Int) : ∀ j, hV f j = vs8 (hI f j)
  | 0 => rfl
  | j + 1 => by
    unfold hV hI
    rw [hV_eq f j]
    unfold vs8
    simp
theorem hI_length (f : Nat → Int) : ∀ j, (hI f j).length = 8 * j
  | 0 => rfl
  | j + 1 => by
    unfold hI
    rw [List.length_append, hI_length f j]
    simp
    omega
theorem hV_length (f : Nat → Int) (j : Nat) : (hV f j).length = 8 * j := by rw [hV_eq, vs8_length, hI_length]
theorem cv8_nn (x : Int) : 0 ≤ cv .u8 x ∧ cv .u8 x < 256 := by
  unfold cv
  simp [IntKind.wrap, IntKind.signed, IntKind.bits]
  omega
theorem hI_nn (f : Nat → Int) : ∀ j, ∀ x ∈ hI f j, 0 ≤ x ∧ x < 256
  | 0, x, h => by simp [hI] at h
  | j + 1, x, h => by
    unfold hI at h
    rcases List.mem_append.1 h with h | h
    · exact hI_nn f j x h
    · simp only [List.mem_cons, List.not_mem_nil, or_false] at h
      rcases h with rfl | rfl | rfl | rfl | rfl | rfl | rfl | rfl <;> exact cv8_nn _
theorem run_ixL {P : Program} {a : Act} {o : Oper} (t elem : TypeId) (hu : P.underlying t = some (.slice elem)) (hs : (P.info? elem).map (·.size) = some 1) (x ix : Operand) (ho : o.op = .indexAddr t x ix) (g off len cap : Nat) (hx : a.eval x = .slice (some ⟨g, off, none⟩) len cap) (k : IntKind) (i : Nat) (hi : a.eval ix = .int k (i : Int)) (hlt : i < len) (w : World) :
    (execOp a.eval o).run P w = .ok (.value (.pointer (some ⟨g, off + i, none⟩))) w := by
  cases hq : P.info? elem with
  | none => simp [hq] at hs
  | some u =>
    have hsz : u.size = 1 := by simpa [hq] using hs
    unfold execOp
    simp [ho, hx, hi, Instr.indexAt, asIntOf, run_underlying hu, sizeOf, typeInfo, hq, hsz, add_at, hlt]
theorem info5_ex : (Tryd.prog.info? 5).isSome = true := by kernel_rfl
theorem info5_eq : Tryd.prog.info? 5 = some ((Tryd.prog.info? 5).get info5_ex) := (Option.some_get info5_ex).symm
theorem info25_ex : (Tryd.prog.info? 25).isSome = true := by kernel_rfl
theorem info25_eq : Tryd.prog.info? 25 = some ((Tryd.prog.info? 25).get info25_ex) := (Option.some_get info25_ex).symm
theorem info5_z : ((Tryd.prog.info? 5).get info5_ex).zero = some (.int .u8 0) := by kernel_rfl
theorem info25_z : ((Tryd.prog.info? 25).get info25_ex).zero = some (.int .u64 0) := by kernel_rfl

set_option maxRecDepth 100000 in
set_option maxHeartbeats 4000000 in
theorem c_high (g off n cap : Nat) (f : Nat → Int) (hn : n ≤ 8) (w : World) (hL : Laid w) (hc : ∀ i, i < n → w.cell? ⟨g, off + i, none⟩ = some (.int .u64 (f i))) :
    Calls Tryd.prog 21 #[.slice (some ⟨g, off, none⟩) n cap] w fun r w' => r = .returned (.string (bs (hI f n))) ∧ Below w.heap.size w w' := by
  go_enter Tryd.func21, Tryd.ntmps21
  have M := Mem.start hL
  refine wp_seq ?_
  refine rg_lit ?_
  refine pl_val (want_no rfl) (some 2) rfl (.string ⟨#[]⟩) (fun _ => by kernel_rfl) ?_
  refine pl_nil ?_
  refine au_then ?_
  refine wp_seq ?_
  refine rg_lit ?_
  refine pl_val (want_no rfl) (some 7) rfl (.slice (some ⟨g, off, none⟩) n cap) (fun _ => by kernel_rfl) ?_
  refine pl_val (want_no rfl) (some 8) rfl (.int .i64 (n : Int)) (fun _ => by kernel_rfl) ?_
  refine pl_val (want_no rfl) (some 9) rfl (.int .i64 ((8 * n : Nat) : Int)) (fun w => Eq.trans (b := .ok (.value (.int .i64 (IntKind.wrap .i64 (8 * (n : Int))))) w) (by kernel_rfl) (by rw [wrap64 (by omega) (by omega)]; congr 3 <;> omega)) ?_
  refine pl_make M (want_no rfl) (some 10) rfl 41 5 _ (.int .u8 0) Tryd.underlying41 info5_eq info5_z (by kernel_rfl) (by decide +kernel) _ _ rfl .i64 .i64 (by kernel_rfl) (8 * n) (by kernel_rfl) (by omega) ?_
  intro g1 Zg1 u1 hZ M
  replace M : Mem ⟨w, none⟩ [⟨g1, Zg1⟩] u1 := M
  refine pl_val (want_no rfl) (some 3) rfl (.slice (some ⟨g1, 0, none⟩) 0 (8 * n)) (fun _ => by kernel_rfl) ?_
  refine pl_nil ?_
  refine au_then ?_
  refine wp_seq ?_
  refine wp_seq ?_
  refine rg_lit ?_
  refine pl_val (want_no rfl) (some 11) rfl (.slice (some ⟨g, off, none⟩) n cap) (fun _ => by kernel_rfl) ?_
  refine pl_val (want_no rfl) (some 12) rfl (.int .i64 (n : Int)) (fun _ => by kernel_rfl) ?_
  refine pl_val (want_no rfl) (some 13) rfl (.int .i64 0) (fun _ => by kernel_rfl) ?_
  refine pl_nil ?_
  refine au_then ?_
  refine wp_block ?_
  refine au_loop (fun j a w' => ∃ (v : Nat → Value) (Z : Obj), a = ⟨#[.slice (some ⟨g, off, none⟩) n cap, undef, .string ⟨#[]⟩, .slice (some ⟨g1, 0, none⟩) (8 * j) (8 * n), undef, v 5, v 6, .slice (some ⟨g, off, none⟩) n cap, .int .i64 (n : Int), .int .i64 ((8 * n : Nat) : Int), .slice (some ⟨g1, 0, none⟩) 0 (8 * n), .slice (some ⟨g, off, none⟩) n cap, .int .i64 (n : Int), .int .i64 (j : Int), v 14, v 15, v 16, v 17, v 18, v 19, v 20, v 21, v 22, v 23, v 24, v 25, v 26, v 27, v 28, undef, undef], []⟩ ∧ SB Z (8 * n) (hV f j) ∧ Mem ⟨w, none⟩ [⟨g1, Z⟩] w') n ⟨fun _ => undef, Zg1, by kernel_rfl, hZ, M⟩ ?_ ?_
  · intro j a u0 hj hI
    obtain ⟨v, Z, rfl, hZ, M⟩ := hI
    refine wp_seq ?_
    refine rg_lit ?_
    refine pl_val (want_no rfl) (some 14) rfl (.bool true) (fun w => Eq.trans (b := .ok (.value (.bool (decide ((j : Int) < (n : Int))))) w) (by kernel_rfl) (by rw [decide_eq_true (by omega)])) ?_
    refine pl_nil ?_
    refine au_then ?_
    refine wp_seq ?_
    refine wp_cond_true (by kernel_rfl) ?_
    refine wp_skip ?_
    refine au_then ?_
    refine wp_seq ?_
    refine wp_block ?_
    refine wp_seq ?_
    refine rg_lit ?_
    refine pl_val (want_no rfl) (some 15) rfl (.pointer (some ⟨g, off + j, none⟩)) (run_ixL 30 25 Tryd.underlying30 inz25 _ _ rfl g off n cap (by kernel_rfl) .i64 j (by kernel_rfl) hj) ?_
    refine pl_cell M (want_no rfl) (some 16) rfl 25 _ rfl g (off + j) (by kernel_rfl) (.int .u64 (f j)) (fun _ => by kernel_rfl) (fun w M => M.oldc (hc j hj) (by simp)) ?_
    refine pl_val (want_no rfl) (some 5) rfl (.int .u64 (f j)) (fun _ => by kernel_rfl) ?_
    refine pl_nil ?_
    refine au_then ?_
    refine wp_seq ?_
    refine rg_lit ?_
    refine pl_val (want_no rfl) (some 6) rfl (.int .i64 56) (fun _ => by kernel_rfl) ?_
    refine pl_nil ?_
    refine au_then ?_
    refine wp_block ?_
    refine wp_loop_rounds 9 ?_
    refine rounds_go ?_
    refine wp_seq ?_
    refine wp_seq ?_
    refine rg_lit ?_
    refine pl_val (want_no rfl) (some 17) rfl (.int .i64 56) (fun _ => by kernel_rfl) ?_
    refine pl_val (want_no rfl) (some 18) rfl (.bool true) (fun _ => by kernel_rfl) ?_
    refine pl_nil ?_
    refine au_then ?_
    refine wp_cond_true (by kernel_rfl) ?_
    refine wp_skip ?_
    refine au_then ?_
    refine wp_seq ?_
    refine wp_block ?_
    refine rg_lit ?_
    refine pl_val (want_no rfl) (some 21) rfl (.slice (some ⟨g1, 0, none⟩) (8 * j) (8 * n)) (fun _ => by kernel_rfl) ?_
    refine pl_val (want_no rfl) (some 22) rfl (.int .u64 (f j)) (fun _ => by kernel_rfl) ?_
    refine pl_val (want_no rfl) (some 23) rfl (.int .i64 56) (fun _ => by kernel_rfl) ?_
    refine pl_val (want_no rfl) (some 24) rfl (.int .u64 (sr (f j) 56)) (fun _ => by kernel_rfl) ?_
    refine pl_val (want_no rfl) (some 25) rfl (.int .u8 (cv .u8 (sr (f j) 56))) (fun _ => by kernel_rfl) ?_
    refine pl_mk M (want_no rfl) (some 26) rfl (fun g2 => .slice (some ⟨g2, 0, none⟩) 1 1) (.cells (av 1 (fun _ => .int .u8 (cv .u8 (sr (f j) 56)))) 5) (fun _ => by kernel_rfl) ?_
    intro g2 u2 M
    replace M : Mem ⟨w, none⟩ [⟨g1, Z⟩, ⟨g2, .cells (av 1 (fun _ => .int .u8 (cv .u8 (sr (f j) 56)))) 5⟩] u2 := M
    refine pl_appR M (want_no rfl) (some 27) rfl 41 41 5 Tryd.underlying41 inz5 0 g1 ((8 * j)) (8 * n) Z (hV f j) rfl hZ (by simp [hV_length]) (by omega) 1 g2 5 (.int .u8 (cv .u8 (sr (f j) 56))) rfl rfl (fun _ => by kernel_rfl) ?_
    intro Y1 u3 hY1 M
    replace M : Mem ⟨w, none⟩ [⟨g1, Y1⟩, ⟨g2, .cells (av 1 (fun _ => .int .u8 (cv .u8 (sr (f j) 56)))) 5⟩] u3 := M
    refine pl_val (want_no rfl) (some 3) rfl (.slice (some ⟨g1, 0, none⟩) ((8 * j) + 1) (8 * n)) (fun _ => by kernel_rfl) ?_
    refine pl_nil ?_
    refine au_block ?_
    refine au_then ?_
    refine rg_lit ?_
    refine pl_val (want_no rfl) (some 19) rfl (.int .i64 56) (fun _ => by kernel_rfl) ?_
    refine pl_val (want_no rfl) (some 20) rfl (.int .i64 48) (fun _ => by kernel_rfl) ?_
    refine pl_val (want_no rfl) (some 6) rfl (.int .i64 48) (fun _ => by kernel_rfl) ?_
    refine pl_nil ?_
    refine au_then ?_
    refine rounds_go ?_
    refine wp_seq ?_
    refine wp_seq ?_
    refine rg_lit ?_
    refine pl_val (want_no rfl) (some 17) rfl (.int .i64 48) (fun _ => by kernel_rfl) ?_
    refine pl_val (want_no rfl) (some 18) rfl (.bool true) (fun _ => by kernel_rfl) ?_
    refine pl_nil ?_
    refine au_then ?_
    refine wp_cond_true (by kernel_rfl) ?_
    refine wp_skip ?_
    refine au_then ?_
    refine wp_seq ?_
    refine wp_block ?_
    refine rg_lit ?_
    refine pl_val (want_no rfl) (some 21) rfl (.slice (some ⟨g1, 0, none⟩) ((8 * j) + 1) (8 * n)) (fun _ => by kernel_rfl) ?_
    refine pl_val (want_no rfl) (some 22) rfl (.int .u64 (f j)) (fun _ => by kernel_rfl) ?_
    refine pl_val (want_no rfl) (some 23) rfl (.int .i64 48) (fun _ => by kernel_rfl) ?_
    refine pl_val (want_no rfl) (some 24) rfl (.int .u64 (sr (f j) 48)) (fun _ => by kernel_rfl) ?_
    refine pl_val (want_no rfl) (some 25) rfl (.int .u8 (cv .u8 (sr (f j) 48))) (fun _ => by kernel_rfl) ?_
    refine pl_mk M (want_no rfl) (some 26) rfl (fun g3 => .slice (some ⟨g3, 0, none⟩) 1 1) (.cells (av 1 (fun _ => .int .u8 (cv .u8 (sr (f j) 48)))) 5) (fun _ => by kernel_rfl) ?_
    intro g3 u4 M
    replace M : Mem ⟨w, none⟩ [⟨g1, Y1⟩, ⟨g2, .cells (av 1 (fun _ => .int .u8 (cv .u8 (sr (f j) 56)))) 5⟩, ⟨g3, .cells (av 1 (fun _ => .int .u8 (cv .u8 (sr (f j) 48)))) 5⟩] u4 := M
    refine pl_appR M (want_no rfl) (some 27) rfl 41 41 5 Tryd.underlying41 inz5 0 g1 (((8 * j) + 1)) (8 * n) Y1 (hV f j ++ [.int .u8 (cv .u8 (sr (f j) 56))]) rfl hY1 (by simp [hV_length]) (by omega) 2 g3 5 (.int .u8 (cv .u8 (sr (f j) 48))) rfl rfl (fun _ => by kernel_rfl) ?_
    intro Y2 u5 hY2 M
    replace M : Mem ⟨w, none⟩ [⟨g1, Y2⟩, ⟨g2, .cells (av 1 (fun _ => .int .u8 (cv .u8 (sr (f j) 56)))) 5⟩, ⟨g3, .cells (av 1 (fun _ => .int .u8 (cv .u8 (sr (f j) 48)))) 5⟩] u5 := M
    refine pl_val (want_no rfl) (some 3) rfl (.slice (some ⟨g1, 0, none⟩) (((8 * j) + 1) + 1) (8 * n)) (fun _ => by kernel_rfl) ?_
    refine pl_nil ?_
    refine au_block ?_
    refine au_then ?_
    refine rg_lit ?_
    refine pl_val (want_no rfl) (some 19) rfl (.int .i64 48) (fun _ => by kernel_rfl) ?_
    refine pl_val (want_no rfl) (some 20) rfl (.int .i64 40) (fun _ => by kernel_rfl) ?_
    refine pl_val (want_no rfl) (some 6) rfl (.int .i64 40) (fun _ => by kernel_rfl) ?_
    refine pl_nil ?_
    refine au_then ?_
    refine rounds_go ?_
    refine wp_seq ?_
    refine wp_seq ?_
    refine rg_lit ?_
    refine pl_val (want_no rfl) (some 17) rfl (.int .i64 40) (fun _ => by kernel_rfl) ?_
    refine pl_val (want_no rfl) (some 18) rfl (.bool true) (fun _ => by kernel_rfl) ?_
    refine pl_nil ?_
    refine au_then ?_
    refine wp_cond_true (by kernel_rfl) ?_
    refine wp_skip ?_
    refine au_then ?_
    refine wp_seq ?_
    refine wp_block ?_
    refine rg_lit ?_
    refine pl_val (want_no rfl) (some 21) rfl (.slice (some ⟨g1, 0, none⟩) (((8 * j) + 1) + 1) (8 * n)) (fun _ => by kernel_rfl) ?_
    refine pl_val (want_no rfl) (some 22) rfl (.int .u64 (f j)) (fun _ => by kernel_rfl) ?_
    refine pl_val (want_no rfl) (some 23) rfl (.int .i64 40) (fun _ => by kernel_rfl) ?_
    refine pl_val (want_no rfl) (some 24) rfl (.int .u64 (sr (f j) 40)) (fun _ => by kernel_rfl) ?_
    refine pl_val (want_no rfl) (some 25) rfl (.int .u8 (cv .u8 (sr (f j) 40))) (fun _ => by kernel_rfl) ?_
    refine pl_mk M (want_no rfl) (some 26) rfl (fun g4 => .slice (some ⟨g4, 0, none⟩) 1 1) (.cells (av 1 (fun _ => .int .u8 (cv .u8 (sr (f j) 40)))) 5) (fun _ => by kernel_rfl) ?_
    intro g4 u6 M
    replace M : Mem ⟨w, none⟩ [⟨g1, Y2⟩, ⟨g2, .cells (av 1 (fun _ => .int .u8 (cv .u8 (sr (f j) 56)))) 5⟩, ⟨g3, .cells (av 1 (fun _ => .int .u8 (cv .u8 (sr (f j) 48)))) 5⟩, ⟨g4, .cells (av 1 (fun _ => .int .u8 (cv .u8 (sr (f j) 40)))) 5⟩] u6 := M
    refine pl_appR M (want_no rfl) (some 27) rfl 41 41 5 Tryd.underlying41 inz5 0 g1 ((((8 * j) + 1) + 1)) (8 * n) Y2 (hV f j ++ [.int .u8 (cv .u8 (sr (f j) 56))] ++ [.int .u8 (cv .u8 (sr (f j) 48))]) rfl hY2 (by simp [hV_length]) (by omega) 3 g4 5 (.int .u8 (cv .u8 (sr (f j) 40))) rfl rfl (fun _ => by kernel_rfl) ?_
    intro Y3 u7 hY3 M
    replace M : Mem ⟨w, none⟩ [⟨g1, Y3⟩, ⟨g2, .cells (av 1 (fun _ => .int .u8 (cv .u8 (sr (f j) 56)))) 5⟩, ⟨g3, .cells (av 1 (fun _ => .int .u8 (cv .u8 (sr (f j) 48)))) 5⟩, ⟨g4, .cells (av 1 (fun _ => .int .u8 (cv .u8 (sr (f j) 40)))) 5⟩] u7 := M
    refine pl_val (want_no rfl) (some 3) rfl (.slice (some ⟨g1, 0, none⟩) ((((8 * j) + 1) + 1) + 1) (8 * n)) (fun _ => by kernel_rfl) ?_
    refine pl_nil ?_
    refine au_block ?_
    refine au_then ?_
    refine rg_lit ?_
    refine pl_val (want_no rfl) (some 19) rfl (.int .i64 40) (fun _ => by kernel_rfl) ?_
    refine pl_val (want_no rfl) (some 20) rfl (.int .i64 32) (fun _ => by kernel_rfl) ?_
    refine pl_val (want_no rfl) (some 6) rfl (.int .i64 32) (fun _ => by kernel_rfl) ?_
    refine pl_nil ?_
    refine au_then ?_
    refine rounds_go ?_
    refine wp_seq ?_
    refine wp_seq ?_
    refine rg_lit ?_
    refine pl_val (want_no rfl) (some 17) rfl (.int .i64 32) (fun _ => by kernel_rfl) ?_
    refine pl_val (want_no rfl) (some 18) rfl (.bool true) (fun _ => by kernel_rfl) ?_
    refine pl_nil ?_
    refine au_then ?_
    refine wp_cond_true (by kernel_rfl) ?_
    refine wp_skip ?_
    refine au_then ?_
    refine wp_seq ?_
    refine wp_block ?_
    refine rg_lit ?_
    refine pl_val (want_no rfl) (some 21) rfl (.slice (some ⟨g1, 0, none⟩) ((((8 * j) + 1) + 1) + 1) (8 * n)) (fun _ => by kernel_rfl) ?_
    refine pl_val (want_no rfl) (some 22) rfl (.int .u64 (f j)) (fun _ => by kernel_rfl) ?_
    refine pl_val (want_no rfl) (some 23) rfl (.int .i64 32) (fun _ => by kernel_rfl) ?_
    refine pl_val (want_no rfl) (some 24) rfl (.int .u64 (sr (f j) 32)) (fun _ => by kernel_rfl) ?_
    refine pl_val (want_no rfl) (some 25) rfl (.int .u8 (cv .u8 (sr (f j) 32))) (fun _ => by kernel_rfl) ?_
    refine pl_mk M (want_no rfl) (some 26) rfl (fun g5 => .slice (some ⟨g5, 0, none⟩) 1 1) (.cells (av 1 (fun _ => .int .u8 (cv .u8 (sr (f j) 32)))) 5) (fun _ => by kernel_rfl) ?_
    intro g5 u8 M
    replace M : Mem ⟨w, none⟩ [⟨g1, Y3⟩, ⟨g2, .cells (av 1 (fun _ => .int .u8 (cv .u8 (sr (f j) 56)))) 5⟩, ⟨g3, .cells (av 1 (fun _ => .int .u8 (cv .u8 (sr (f j) 48)))) 5⟩, ⟨g4, .cells (av 1 (fun _ => .int .u8 (cv .u8 (sr (f j) 40)))) 5⟩, ⟨g5, .cells (av 1 (fun _ => .int .u8 (cv .u8 (sr (f j) 32)))) 5⟩] u8 := M
    refine pl_appR M (want_no rfl) (some 27) rfl 41 41 5 Tryd.underlying41 inz5 0 g1 (((((8 * j) + 1) + 1) + 1)) (8 * n) Y3 (hV f j ++ [.int .u8 (cv .u8 (sr (f j) 56))] ++ [.int .u8 (cv .u8 (sr (f j) 48))] ++ [.int .u8 (cv .u8 (sr (f j) 40))]) rfl hY3 (by simp [hV_length]) (by omega) 4 g5 5 (.int .u8 (cv .u8 (sr (f j) 32))) rfl rfl (fun _ => by kernel_rfl) ?_
    intro Y4 u9 hY4 M
    replace M : Mem ⟨w, none⟩ [⟨g1, Y4⟩, ⟨g2, .cells (av 1 (fun _ => .int .u8 (cv .u8 (sr (f j) 56)))) 5⟩, ⟨g3, .cells (av 1 (fun _ => .int .u8 (cv .u8 (sr (f j) 48)))) 5⟩, ⟨g4, .cells (av 1 (fun _ => .int .u8 (cv .u8 (sr (f j) 40)))) 5⟩, ⟨g5, .cells (av 1 (fun _ => .int .u8 (cv .u8 (sr (f j) 32)))) 5⟩] u9 := M
    refine pl_val (want_no rfl) (some 3) rfl (.slice (some ⟨g1, 0, none⟩) (((((8 * j) + 1) + 1) + 1) + 1) (8 * n)) (fun _ => by kernel_rfl) ?_
    refine pl_nil ?_
    refine au_block ?_
    refine au_then ?_
    refine rg_lit ?_
    refine pl_val (want_no rfl) (some 19) rfl (.int .i64 32) (fun _ => by kernel_rfl) ?_
    refine pl_val (want_no rfl) (some 20) rfl (.int .i64 24) (fun _ => by kernel_rfl) ?_
    refine pl_val (want_no rfl) (some 6) rfl (.int .i64 24) (fun _ => by kernel_rfl) ?_
    refine pl_nil ?_
    refine au_then ?_
    refine rounds_go ?_
    refine wp_seq ?_
    refine wp_seq ?_
    refine rg_lit ?_
    refine pl_val (want_no rfl) (some 17) rfl (.int .i64 24) (fun _ => by kernel_rfl) ?_
    refine pl_val (want_no rfl) (some 18) rfl (.bool true) (fun _ => by kernel_rfl) ?_
    refine pl_nil ?_
    refine au_then ?_
    refine wp_cond_true (by kernel_rfl) ?_
    refine wp_skip ?_
    refine au_then ?_
    refine wp_seq ?_
    refine wp_block ?_
    refine rg_lit ?_
    refine pl_val (want_no rfl) (some 21) rfl (.slice (some ⟨g1, 0, none⟩) (((((8 * j) + 1) + 1) + 1) + 1) (8 * n)) (fun _ => by kernel_rfl) ?_
    refine pl_val (want_no rfl) (some 22) rfl (.int .u64 (f j)) (fun _ => by kernel_rfl) ?_
    refine pl_val (want_no rfl) (some 23) rfl (.int .i64 24) (fun _ => by kernel_rfl) ?_
    refine pl_val (want_no rfl) (some 24) rfl (.int .u64 (sr (f j) 24)) (fun _ => by kernel_rfl) ?_
    refine pl_val (want_no rfl) (some 25) rfl (.int .u8 (cv .u8 (sr (f j) 24))) (fun _ => by kernel_rfl) ?_
    refine pl_mk M (want_no rfl) (some 26) rfl (fun g6 => .slice (some ⟨g6, 0, none⟩) 1 1) (.cells (av 1 (fun _ => .int .u8 (cv .u8 (sr (f j) 24)))) 5) (fun _ => by kernel_rfl) ?_
    intro g6 u10 M
    replace M : Mem ⟨w, none⟩ [⟨g1, Y4⟩, ⟨g2, .cells (av 1 (fun _ => .int .u8 (cv .u8 (sr (f j) 56)))) 5⟩, ⟨g3, .cells (av 1 (fun _ => .int .u8 (cv .u8 (sr (f j) 48)))) 5⟩, ⟨g4, .cells (av 1 (fun _ => .int .u8 (cv .u8 (sr (f j) 40)))) 5⟩, ⟨g5, .cells (av 1 (fun _ => .int .u8 (cv .u8 (sr (f j) 32)))) 5⟩, ⟨g6, .cells (av 1 (fun _ => .int .u8 (cv .u8 (sr (f j) 24)))) 5⟩] u10 := M
    refine pl_appR M (want_no rfl) (some 27) rfl 41 41 5 Tryd.underlying41 inz5 0 g1 ((((((8 * j) + 1) + 1) + 1) + 1)) (8 * n) Y4 (hV f j ++ [.int .u8 (cv .u8 (sr (f j) 56))] ++ [.int .u8 (cv .u8 (sr (f j) 48))] ++ [.int .u8 (cv .u8 (sr (f j) 40))] ++ [.int .u8 (cv .u8 (sr (f j) 32))]) rfl hY4 (by simp [hV_length]) (by omega) 5 g6 5 (.int .u8 (cv .u8 (sr (f j) 24))) rfl rfl (fun _ => by kernel_rfl) ?_
    intro Y5 u11 hY5 M
    replace M : Mem ⟨w, none⟩ [⟨g1, Y5⟩, ⟨g2, .cells (av 1 (fun _ => .int .u8 (cv .u8 (sr (f j) 56)))) 5⟩, ⟨g3, .cells (av 1 (fun _ => .int .u8 (cv .u8 (sr (f j) 48)))) 5⟩, ⟨g4, .cells (av 1 (fun _ => .int .u8 (cv .u8 (sr (f j) 40)))) 5⟩, ⟨g5, .cells (av 1 (fun _ => .int .u8 (cv .u8 (sr (f j) 32)))) 5⟩, ⟨g6, .cells (av 1 (fun _ => .int .u8 (cv .u8 (sr (f j) 24)))) 5⟩] u11 := M
    refine pl_val (want_no rfl) (some 3) rfl (.slice (some ⟨g1, 0, none⟩) ((((((8 * j) + 1) + 1) + 1) + 1) + 1) (8 * n)) (fun _ => by kernel_rfl) ?_
    refine pl_nil ?_
    refine au_block ?_
    refine au_then ?_
    refine rg_lit ?_
    refine pl_val (want_no rfl) (some 19) rfl (.int .i64 24) (fun _ => by kernel_rfl) ?_
    refine pl_val (want_no rfl) (some 20) rfl (.int .i64 16) (fun _ => by kernel_rfl) ?_
    refine pl_val (want_no rfl) (some 6) rfl (.int .i64 16) (fun _ => by kernel_rfl) ?_
    refine pl_nil ?_
    refine au_then ?_
    refine rounds_go ?_
    refine wp_seq ?_
    refine wp_seq ?_
    refine rg_lit ?_
    refine pl_val (want_no rfl) (some 17) rfl (.int .i64 16) (fun _ => by kernel_rfl) ?_
    refine pl_val (want_no rfl) (some 18) rfl (.bool true) (fun _ => by kernel_rfl) ?_
    refine pl_nil ?_
    refine au_then ?_
    refine wp_cond_true (by kernel_rfl) ?_
    refine wp_skip ?_
    refine au_then ?_
    refine wp_seq ?_
    refine wp_block ?_
    refine rg_lit ?_
    refine pl_val (want_no rfl) (some 21) rfl (.slice (some ⟨g1, 0, none⟩) ((((((8 * j) + 1) + 1) + 1) + 1) + 1) (8 * n)) (fun _ => by kernel_rfl) ?_
    refine pl_val (want_no rfl) (some 22) rfl (.int .u64 (f j)) (fun _ => by kernel_rfl) ?_
    refine pl_val (want_no rfl) (some 23) rfl (.int .i64 16) (fun _ => by kernel_rfl) ?_
    refine pl_val (want_no rfl) (some 24) rfl (.int .u64 (sr (f j) 16)) (fun _ => by kernel_rfl) ?_
    refine pl_val (want_no rfl) (some 25) rfl (.int .u8 (cv .u8 (sr (f j) 16))) (fun _ => by kernel_rfl) ?_
    refine pl_mk M (want_no rfl) (some 26) rfl (fun g7 => .slice (some ⟨g7, 0, none⟩) 1 1) (.cells (av 1 (fun _ => .int .u8 (cv .u8 (sr (f j) 16)))) 5) (fun _ => by kernel_rfl) ?_
    intro g7 u12 M
    replace M : Mem ⟨w, none⟩ [⟨g1, Y5⟩, ⟨g2, .cells (av 1 (fun _ => .int .u8 (cv .u8 (sr (f j) 56)))) 5⟩, ⟨g3, .cells (av 1 (fun _ => .int .u8 (cv .u8 (sr (f j) 48)))) 5⟩, ⟨g4, .cells (av 1 (fun _ => .int .u8 (cv .u8 (sr (f j) 40)))) 5⟩, ⟨g5, .cells (av 1 (fun _ => .int .u8 (cv .u8 (sr (f j) 32)))) 5⟩, ⟨g6, .cells (av 1 (fun _ => .int .u8 (cv .u8 (sr (f j) 24)))) 5⟩, ⟨g7, .cells (av 1 (fun _ => .int .u8 (cv .u8 (sr (f j) 16)))) 5⟩] u12 := M
    refine pl_appR M (want_no rfl) (some 27) rfl 41 41 5 Tryd.underlying41 inz5 0 g1 (((((((8 * j) + 1) + 1) + 1) + 1) + 1)) (8 * n) Y5 (hV f j ++ [.int .u8 (cv .u8 (sr (f j) 56))] ++ [.int .u8 (cv .u8 (sr (f j) 48))] ++ [.int .u8 (cv .u8 (sr (f j) 40))] ++ [.int .u8 (cv .u8 (sr (f j) 32))] ++ [.int .u8 (cv .u8 (sr (f j) 24))]) rfl hY5 (by simp [hV_length]) (by omega) 6 g7 5 (.int .u8 (cv .u8 (sr (f j) 16))) rfl rfl (fun _ => by kernel_rfl) ?_
    intro Y6 u13 hY6 M
    replace M : Mem ⟨w, none⟩ [⟨g1, Y6⟩, ⟨g2, .cells (av 1 (fun _ => .int .u8 (cv .u8 (sr (f j) 56)))) 5⟩, ⟨g3, .cells (av 1 (fun _ => .int .u8 (cv .u8 (sr (f j) 48)))) 5⟩, ⟨g4, .cells (av 1 (fun _ => .int .u8 (cv .u8 (sr (f j) 40)))) 5⟩, ⟨g5, .cells (av 1 (fun _ => .int .u8 (cv .u8 (sr (f j) 32)))) 5⟩, ⟨g6, .cells (av 1 (fun _ => .int .u8 (cv .u8 (sr (f j) 24)))) 5⟩, ⟨g7, .cells (av 1 (fun _ => .int .u8 (cv .u8 (sr (f j) 16)))) 5⟩] u13 := M
    refine pl_val (want_no rfl) (some 3) rfl (.slice (some ⟨g1, 0, none⟩) (((((((8 * j) + 1) + 1) + 1) + 1) + 1) + 1) (8 * n)) (fun _ => by kernel_rfl) ?_
    refine pl_nil ?_
    refine au_block ?_
    refine au_then ?_
    refine rg_lit ?_
    refine pl_val (want_no rfl) (some 19) rfl (.int .i64 16) (fun _ => by kernel_rfl) ?_
    refine pl_val (want_no rfl) (some 20) rfl (.int .i64 8) (fun _ => by kernel_rfl) ?_
    refine pl_val (want_no rfl) (some 6) rfl (.int .i64 8) (fun _ => by kernel_rfl) ?_
    refine pl_nil ?_
    refine au_then ?_
    refine rounds_go ?_
    refine wp_seq ?_
    refine wp_seq ?_
    refine rg_lit ?_
    refine pl_val (want_no rfl) (some 17) rfl (.int .i64 8) (fun _ => by kernel_rfl) ?_
    refine pl_val (want_no rfl) (some 18) rfl (.bool true) (fun _ => by kernel_rfl) ?_
    refine pl_nil ?_
    refine au_then ?_
    refine wp_cond_true (by kernel_rfl) ?_
    refine wp_skip ?_
    refine au_then ?_
    refine wp_seq ?_
    refine wp_block ?_
    refine rg_lit ?_
    refine pl_val (want_no rfl) (some 21) rfl (.slice (some ⟨g1, 0, none⟩) (((((((8 * j) + 1) + 1) + 1) + 1) + 1) + 1) (8 * n)) (fun _ => by kernel_rfl) ?_
    refine pl_val (want_no rfl) (some 22) rfl (.int .u64 (f j)) (fun _ => by kernel_rfl) ?_
    refine pl_val (want_no rfl) (some 23) rfl (.int .i64 8) (fun _ => by kernel_rfl) ?_
    refine pl_val (want_no rfl) (some 24) rfl (.int .u64 (sr (f j) 8)) (fun _ => by kernel_rfl) ?_
    refine pl_val (want_no rfl) (some 25) rfl (.int .u8 (cv .u8 (sr (f j) 8))) (fun _ => by kernel_rfl) ?_
    refine pl_mk M (want_no rfl) (some 26) rfl (fun g8 => .slice (some ⟨g8, 0, none⟩) 1 1) (.cells (av 1 (fun _ => .int .u8 (cv .u8 (sr (f j) 8)))) 5) (fun _ => by kernel_rfl) ?_
    intro g8 u14 M
    replace M : Mem ⟨w, none⟩ [⟨g1, Y6⟩, ⟨g2, .cells (av 1 (fun _ => .int .u8 (cv .u8 (sr (f j) 56)))) 5⟩, ⟨g3, .cells (av 1 (fun _ => .int .u8 (cv .u8 (sr (f j) 48)))) 5⟩, ⟨g4, .cells (av 1 (fun _ => .int .u8 (cv .u8 (sr (f j) 40)))) 5⟩, ⟨g5, .cells (av 1 (fun _ => .int .u8 (cv .u8 (sr (f j) 32)))) 5⟩, ⟨g6, .cells (av 1 (fun _ => .int .u8 (cv .u8 (sr (f j) 24)))) 5⟩, ⟨g7, .cells (av 1 (fun _ => .int .u8 (cv .u8 (sr (f j) 16)))) 5⟩, ⟨g8, .cells (av 1 (fun _ => .int .u8 (cv .u8 (sr (f j) 8)))) 5⟩] u14 := M
    refine pl_appR M (want_no rfl) (some 27) rfl 41 41 5 Tryd.underlying41 inz5 0 g1 ((((((((8 * j) + 1) + 1) + 1) + 1) + 1) + 1)) (8 * n) Y6 (hV f j ++ [.int .u8 (cv .u8 (sr (f j) 56))] ++ [.int .u8 (cv .u8 (sr (f j) 48))] ++ [.int .u8 (cv .u8 (sr (f j) 40))] ++ [.int .u8 (cv .u8 (sr (f j) 32))] ++ [.int .u8 (cv .u8 (sr (f j) 24))] ++ [.int .u8 (cv .u8 (sr (f j) 16))]) rfl hY6 (by simp [hV_length]) (by omega) 7 g8 5 (.int .u8 (cv .u8 (sr (f j) 8))) rfl rfl (fun _ => by kernel_rfl) ?_
    intro Y7 u15 hY7 M
    replace M : Mem ⟨w, none⟩ [⟨g1, Y7⟩, ⟨g2, .cells (av 1 (fun _ => .int .u8 (cv .u8 (sr (f j) 56)))) 5⟩, ⟨g3, .cells (av 1 (fun _ => .int .u8 (cv .u8 (sr (f j) 48)))) 5⟩, ⟨g4, .cells (av 1 (fun _ => .int .u8 (cv .u8 (sr (f j) 40)))) 5⟩, ⟨g5, .cells (av 1 (fun _ => .int .u8 (cv .u8 (sr (f j) 32)))) 5⟩, ⟨g6, .cells (av 1 (fun _ => .int .u8 (cv .u8 (sr (f j) 24)))) 5⟩, ⟨g7, .cells (av 1 (fun _ => .int .u8 (cv .u8 (sr (f j) 16)))) 5⟩, ⟨g8, .cells (av 1 (fun _ => .int .u8 (cv .u8 (sr (f j) 8)))) 5⟩] u15 := M
    refine pl_val (want_no rfl) (some 3) rfl (.slice (some ⟨g1, 0, none⟩) ((((((((8 * j) + 1) + 1) + 1) + 1) + 1) + 1) + 1) (8 * n)) (fun _ => by kernel_rfl) ?_
    refine pl_nil ?_
    refine au_block ?_
    refine au_then ?_
    refine rg_lit ?_
    refine pl_val (want_no rfl) (some 19) rfl (.int .i64 8) (fun _ => by kernel_rfl) ?_
    refine pl_val (want_no rfl) (some 20) rfl (.int .i64 0) (fun _ => by kernel_rfl) ?_
    refine pl_val (want_no rfl) (some 6) rfl (.int .i64 0) (fun _ => by kernel_rfl) ?_
    refine pl_nil ?_
    refine au_then ?_
    refine rounds_go ?_
    refine wp_seq ?_
    refine wp_seq ?_
    refine rg_lit ?_
    refine pl_val (want_no rfl) (some 17) rfl (.int .i64 0) (fun _ => by kernel_rfl) ?_
    refine pl_val (want_no rfl) (some 18) rfl (.bool true) (fun _ => by kernel_rfl) ?_
    refine pl_nil ?_
    refine au_then ?_
    refine wp_cond_true (by kernel_rfl) ?_
    refine wp_skip ?_
    refine au_then ?_
    refine wp_seq ?_
    refine wp_block ?_
    refine rg_lit ?_
    refine pl_val (want_no rfl) (some 21) rfl (.slice (some ⟨g1, 0, none⟩) ((((((((8 * j) + 1) + 1) + 1) + 1) + 1) + 1) + 1) (8 * n)) (fun _ => by kernel_rfl) ?_
    refine pl_val (want_no rfl) (some 22) rfl (.int .u64 (f j)) (fun _ => by kernel_rfl) ?_
    refine pl_val (want_no rfl) (some 23) rfl (.int .i64 0) (fun _ => by kernel_rfl) ?_
    refine pl_val (want_no rfl) (some 24) rfl (.int .u64 (sr (f j) 0)) (fun _ => by kernel_rfl) ?_
    refine pl_val (want_no rfl) (some 25) rfl (.int .u8 (cv .u8 (sr (f j) 0))) (fun _ => by kernel_rfl) ?_
    refine pl_mk M (want_no rfl) (some 26) rfl (fun g9 => .slice (some ⟨g9, 0, none⟩) 1 1) (.cells (av 1 (fun _ => .int .u8 (cv .u8 (sr (f j) 0)))) 5) (fun _ => by kernel_rfl) ?_
    intro g9 u16 M
    replace M : Mem ⟨w, none⟩ [⟨g1, Y7⟩, ⟨g2, .cells (av 1 (fun _ => .int .u8 (cv .u8 (sr (f j) 56)))) 5⟩, ⟨g3, .cells (av 1 (fun _ => .int .u8 (cv .u8 (sr (f j) 48)))) 5⟩, ⟨g4, .cells (av 1 (fun _ => .int .u8 (cv .u8 (sr (f j) 40)))) 5⟩, ⟨g5, .cells (av 1 (fun _ => .int .u8 (cv .u8 (sr (f j) 32)))) 5⟩, ⟨g6, .cells (av 1 (fun _ => .int .u8 (cv .u8 (sr (f j) 24)))) 5⟩, ⟨g7, .cells (av 1 (fun _ => .int .u8 (cv .u8 (sr (f j) 16)))) 5⟩, ⟨g8, .cells (av 1 (fun _ => .int .u8 (cv .u8 (sr (f j) 8)))) 5⟩, ⟨g9, .cells (av 1 (fun _ => .int .u8 (cv .u8 (sr (f j) 0)))) 5⟩] u16 := M
    refine pl_appR M (want_no rfl) (some 27) rfl 41 41 5 Tryd.underlying41 inz5 0 g1 (((((((((8 * j) + 1) + 1) + 1) + 1) + 1) + 1) + 1)) (8 * n) Y7 (hV f j ++ [.int .u8 (cv .u8 (sr (f j) 56))] ++ [.int .u8 (cv .u8 (sr (f j) 48))] ++ [.int .u8 (cv .u8 (sr (f j) 40))] ++ [.int .u8 (cv .u8 (sr (f j) 32))] ++ [.int .u8 (cv .u8 (sr (f j) 24))] ++ [.int .u8 (cv .u8 (sr (f j) 16))] ++ [.int .u8 (cv .u8 (sr (f j) 8))]) rfl hY7 (by simp [hV_length]) (by omega) 8 g9 5 (.int .u8 (cv .u8 (sr (f j) 0))) rfl rfl (fun _ => by kernel_rfl) ?_
    intro Y8 u17 hY8 M
    replace M : Mem ⟨w, none⟩ [⟨g1, Y8⟩, ⟨g2, .cells (av 1 (fun _ => .int .u8 (cv .u8 (sr (f j) 56)))) 5⟩, ⟨g3, .cells (av 1 (fun _ => .int .u8 (cv .u8 (sr (f j) 48)))) 5⟩, ⟨g4, .cells (av 1 (fun _ => .int .u8 (cv .u8 (sr (f j) 40)))) 5⟩, ⟨g5, .cells (av 1 (fun _ => .int .u8 (cv .u8 (sr (f j) 32)))) 5⟩, ⟨g6, .cells (av 1 (fun _ => .int .u8 (cv .u8 (sr (f j) 24)))) 5⟩, ⟨g7, .cells (av 1 (fun _ => .int .u8 (cv .u8 (sr (f j) 16)))) 5⟩, ⟨g8, .cells (av 1 (fun _ => .int .u8 (cv .u8 (sr (f j) 8)))) 5⟩, ⟨g9, .cells (av 1 (fun _ => .int .u8 (cv .u8 (sr (f j) 0)))) 5⟩] u17 := M
    refine pl_val (want_no rfl) (some 3) rfl (.slice (some ⟨g1, 0, none⟩) (((((((((8 * j) + 1) + 1) + 1) + 1) + 1) + 1) + 1) + 1) (8 * n)) (fun _ => by kernel_rfl) ?_
    refine pl_nil ?_
    refine au_block ?_
    refine au_then ?_
    refine rg_lit ?_
    refine pl_val (want_no rfl) (some 19) rfl (.int .i64 0) (fun _ => by kernel_rfl) ?_
    refine pl_val (want_no rfl) (some 20) rfl (.int .i64 (-8)) (fun _ => by kernel_rfl) ?_
    refine pl_val (want_no rfl) (some 6) rfl (.int .i64 (-8)) (fun _ => by kernel_rfl) ?_
    refine pl_nil ?_
    refine au_then ?_
    refine rounds_go ?_
    refine wp_seq ?_
    refine wp_seq ?_
    refine rg_lit ?_
    refine pl_val (want_no rfl) (some 17) rfl (.int .i64 (-8)) (fun _ => by kernel_rfl) ?_
    refine pl_val (want_no rfl) (some 18) rfl (.bool false) (fun _ => by kernel_rfl) ?_
    refine pl_nil ?_
    refine au_then ?_
    refine wp_cond_false (by kernel_rfl) ?_
    refine wp_exit ?_
    refine au_then_exit ?_
    refine au_then_exit ?_
    refine au_block_exit ?_
    refine au_block ?_
    refine au_then ?_
    refine rg_lit ?_
    refine pl_val (want_no rfl) (some 28) rfl (.int .i64 ((j + 1 : Nat) : Int)) (fun w => Eq.trans (b := .ok (.value (.int .i64 (IntKind.wrap .i64 ((j : Int) + 1)))) w) (by kernel_rfl) (by rw [wrap64 (by omega) (by omega)]; congr 3)) ?_
    refine pl_val (want_no rfl) (some 13) rfl (.int .i64 ((j + 1 : Nat) : Int)) (fun _ => by kernel_rfl) ?_
    refine pl_nil ?_
    refine au_then ?_
    exact ⟨fun k_ => ([.int .u64 (f j), .int .i64 (-8), undef, undef, undef, undef, undef, undef, undef, .bool true, .pointer (some ⟨g, off + j, none⟩), .int .u64 (f j), .int .i64 (-8), .bool false, .int .i64 0, .int .i64 (-8), .slice (some ⟨g1, 0, none⟩) ((((((((8 * j) + 1) + 1) + 1) + 1) + 1) + 1) + 1) (8 * n), .int .u64 (f j), .int .i64 0, .int .u64 (sr (f j) 0), .int .u8 (cv .u8 (sr (f j) 0)), .slice (some ⟨g9, 0, none⟩) 1 1, .slice (some ⟨g1, 0, none⟩) (((((((((8 * j) + 1) + 1) + 1) + 1) + 1) + 1) + 1) + 1) (8 * n), .int .i64 ((j + 1 : Nat) : Int)] : List Value).getD (k_ - 5) undef, Y8, by kernel_rfl, hY8, M.drop (.cons_cons _ (.cons _ (.cons _ (.cons _ (.cons _ (.cons _ (.cons _ (.cons _ (.cons _ (.slnil))))))))))⟩
  · intro a u0 hI
    obtain ⟨v, Z, rfl, hZ, M⟩ := hI
    refine wp_seq ?_
    refine rg_lit ?_
    refine pl_val (want_no rfl) (some 14) rfl (.bool false) (fun w => Eq.trans (b := .ok (.value (.bool (decide ((n : Int) < (n : Int))))) w) (by kernel_rfl) (by rw [decide_eq_false (by omega)])) ?_
    refine pl_nil ?_
    refine au_then ?_
    refine wp_seq ?_
    refine wp_cond_false (by kernel_rfl) ?_
    refine wp_exit ?_
    refine au_then_exit ?_
    refine au_then_exit ?_
    refine au_block_exit ?_
    refine au_then ?_
    refine wp_seq ?_
    refine rg_lit ?_
    refine pl_val (want_no rfl) (some 29) rfl (.slice (some ⟨g1, 0, none⟩) (8 * n) (8 * n)) (fun _ => by kernel_rfl) ?_
    rw [hV_eq] at hZ
    refine pl_back M (want_no rfl) (some 30) rfl _ rfl 0 g1 ((8 * n)) (8 * n) (by kernel_rfl) Z rfl (hI f n) (8 * n) hZ (hI_length f n) (hI_nn f n) ?_
    refine pl_val (want_no rfl) (some 2) rfl (.string (bs (hI f n))) (fun _ => by kernel_rfl) ?_
    refine pl_nil ?_
    refine au_then ?_
    refine wp_ret ?_
    exact bodyPost_ret (v := .string (bs (hI f n))) (results_tmp1 Tryd.results21 _ _ _ (by kernel_rfl)) (by kernel_rfl) ⟨rfl, below_grown M.old⟩


end Go.Proofs.YtghobmgdadpplaaDoor
