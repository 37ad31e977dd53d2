/- What is read of any bytes by any calls: CodeReads. -/
import Derived.Test.YtoiodkhmkkhjcaaQ5
namespace Go.Proofs.Ytoiodkhmkkhjcaa
open Go.RowKit

theorem run_ixK {P : Program} {a : Act} {o : Oper} (t elem K : TypeId) (hu : P.underlying t = some (.slice elem)) (hs : (P.info? elem).map (·.size) = some K) (x ix : Operand) (ho : o.op = .indexAddr t x ix) (l : Option Addr) (g off len cap : Nat) (hx : a.eval x = .slice l len cap) (hl : l = some ⟨g, off, none⟩) (k : IntKind) (i : Nat) (hi : a.eval ix = .int k (i : Int)) (hlt : i < len) (w : World) :
    (execOp a.eval o).run P w = .ok (.value (.pointer (some ⟨g, off + i * K, none⟩))) w := by
  subst hl
  cases hq : P.info? elem with
  | none => simp [hq] at hs
  | some info =>
    have hsz : info.size = K := by simpa [hq] using hs
    unfold execOp
    simp [ho, hx, hi, Instr.indexAt, asIntOf, run_underlying hu, sizeOf, typeInfo, hq, hsz, add_at, hlt]
section
variable {P : Program} {ops : Array Oper} {rest : List Oper} {o : Oper} {a : Act} {w : World} {c : Ctx} {L : List Blk} {Q : Exit → Act → World → Prop}
/-- A row that was there ahead. -/
theorem pl_loadO (M : Mem c L w) (hw : Region.wanted o (yielded ops a.tmps) = true) (d : Option Tmp) (hd : o.dst = d) (ty : TypeId) (x : Operand) (ho : o.op = .load ty x) (g off : Nat) (hx : a.eval x = .pointer (some ⟨g, off, none⟩)) (k : Nat) (F : Nat → Value) (hp : ∀ w, Mem c L w → ∀ j, j < k → w.cell? ⟨g, off + j, none⟩ = some (F j)) (t : TypeDesc) (hu : P.underlying ty = some t) (ht : t.isRow = true) (hz : (P.info? ty).map (·.size) = some k)
    (h : PL P ops Q rest (a.put d (.agg (av k F))) w) : PL P ops Q (o :: rest) a w := by
  refine pl_to hw d hd (.agg (av k F)) w ?_ h
  unfold execOp
  have hl := run_loadAt_mid (P := P) w g off ty (av k F).toList t (fun j v hv => by
    obtain ⟨hj, rfl⟩ := av_toList_get k F j v hv
    exact hp w M j hj) hu ht (by rw [hz]; simp [av_size])
  simp only [ho, hx, Sem.run_bind, hl, Result.andThen_ok, Sem.run_pure, Array.toArray_toList]
end
def stS (d n : Int) (s : ByteArray) (f : Int) : ByteArray := if d = 0 then tkS s f 1 else if d = 1 then tkS s f 2 else if d = 2 then tkS s f 4 else if d = 3 then tkS s f 8 else if d = 4 then tkS s f n else dxS s f
def stF (d n : Int) (s : ByteArray) (f : Int) : Int := if d = 0 then tkF s f 1 else if d = 1 then tkF s f 2 else if d = 2 then tkF s f 4 else if d = 3 then tkF s f 8 else if d = 4 then tkF s f n else dxF s f
/-- What is left, and the fault, behind the first j calls. -/
def rsP (Ds Ns : Nat → Int) (s : ByteArray) : Nat → ByteArray × Int
  | 0 => (s, 0)
  | j + 1 => (stS (Ds j) (Ns j) (rsP Ds Ns s j).1 (rsP Ds Ns s j).2, stF (Ds j) (Ns j) (rsP Ds Ns s j).1 (rsP Ds Ns s j).2)
def rS (Ds Ns : Nat → Int) (s : ByteArray) (j : Nat) : ByteArray := (rsP Ds Ns s j).1
def rF (Ds Ns : Nat → Int) (s : ByteArray) (j : Nat) : Int := (rsP Ds Ns s j).2
theorem rS_s (Ds Ns : Nat → Int) (s : ByteArray) (j : Nat) : rS Ds Ns s (j + 1) = stS (Ds j) (Ns j) (rS Ds Ns s j) (rF Ds Ns s j) := rfl
theorem rF_s (Ds Ns : Nat → Int) (s : ByteArray) (j : Nat) : rF Ds Ns s (j + 1) = stF (Ds j) (Ns j) (rS Ds Ns s j) (rF Ds Ns s j) := rfl
set_option maxRecDepth 100000 in
set_option maxHeartbeats 4000000 in
set_option linter.unusedSimpArgs false in
theorem c_reads (s : ByteArray) (l : Option Addr) (b o len cap : Nat) (Ds Ns : Nat → Int) (hll : 0 < len → l = some ⟨b, o, none⟩) (w : World) (hL : Laid w) (hD : ∀ j, j < len → w.cell? ⟨b, o + j * 2, none⟩ = some (.int .i64 (Ds j))) (hN : ∀ j, j < len → w.cell? ⟨b, o + j * 2 + 1, none⟩ = some (.int .i64 (Ns j))) :
    Calls Try.prog 4 #[.string s, .slice l len cap] w fun r w' => r = .returned (.bool true) ∧ Below w.heap.size w w' := by
  go_enter Try.func4, Try.ntmps4
  have M := Mem.start hL
  refine wp_seq ?_
  refine rg_lit ?_
  refine pl_val (want_no rfl) (some 4) rfl (.bool false) (fun _ => by kernel_rfl) ?_
  refine pl_nil ?_
  refine au_then ?_
  refine wp_seq ?_
  refine wp_seq ?_
  refine rg_lit ?_
  refine pl_val (want_no rfl) (some 10) rfl (.string s) (fun _ => by kernel_rfl) ?_
  refine pl_val (want_no rfl) (some 11) rfl (.int .i64 (s.size : Int)) (fun _ => by kernel_rfl) ?_
  by_cases c0 : 131072 < (s.size : Int)
  · skip
    refine pl_val (want_no rfl) (some 12) rfl (.bool true) (fun w => Eq.trans (b := .ok (.value (.bool (decide (131072 < (s.size : Int))))) w) (by kernel_rfl) (by rw [decide_eq_true (c0)])) ?_
    refine pl_val (want_no rfl) (some 13) rfl (.bool true) (fun _ => by kernel_rfl) ?_
    refine pl_skip (want_off 3 false rfl 13 rfl (by kernel_rfl)) (some 14) rfl ?_
    refine pl_skip (want_off 3 false rfl 13 rfl (by kernel_rfl)) (some 15) rfl ?_
    refine pl_skip (want_off 3 false rfl 13 rfl (by kernel_rfl)) (some 16) rfl ?_
    refine pl_val (want_no rfl) (some 17) rfl (.bool true) (fun _ => by kernel_rfl) ?_
    refine pl_nil ?_
    refine au_then ?_
    refine wp_cond_true (by kernel_rfl) ?_
    refine wp_seq ?_
    refine rg_lit ?_
    refine pl_call M (want_no rfl) (some 18) rfl 7 #[] (.bool true) (fun _ => by kernel_rfl) (fun w M => c_works w M.laid) ?_
    intro u1 M
    refine pl_val (want_no rfl) (some 4) rfl (.bool true) (fun _ => by kernel_rfl) ?_
    refine pl_nil ?_
    refine au_then ?_
    refine wp_ret ?_
    refine au_then_ret ?_
    exact bodyPost_ret (v := .bool true) (results_tmp1 Try.results4 _ _ _ (by kernel_rfl)) (by kernel_rfl) ⟨rfl, below_grown M.old⟩
  · skip
    refine pl_val (want_no rfl) (some 12) rfl (.bool false) (fun w => Eq.trans (b := .ok (.value (.bool (decide (131072 < (s.size : Int))))) w) (by kernel_rfl) (by rw [decide_eq_false (c0)])) ?_
    refine pl_val (want_no rfl) (some 13) rfl (.bool false) (fun _ => by kernel_rfl) ?_
    refine pl_val (want_on 3 false rfl 13 rfl (by kernel_rfl)) (some 14) rfl (.slice l len cap) (fun _ => by kernel_rfl) ?_
    refine pl_val (want_on 3 false rfl 13 rfl (by kernel_rfl)) (some 15) rfl (.int .i64 (len : Int)) (fun _ => by kernel_rfl) ?_
    by_cases c1 : 200 < (len : Int)
    · skip
      refine pl_val (want_on 3 false rfl 13 rfl (by kernel_rfl)) (some 16) rfl (.bool true) (fun w => Eq.trans (b := .ok (.value (.bool (decide (200 < (len : Int))))) w) (by kernel_rfl) (by rw [decide_eq_true (c1)])) ?_
      refine pl_val (want_no rfl) (some 17) rfl (.bool true) (fun _ => by kernel_rfl) ?_
      refine pl_nil ?_
      refine au_then ?_
      refine wp_cond_true (by kernel_rfl) ?_
      refine wp_seq ?_
      refine rg_lit ?_
      refine pl_call M (want_no rfl) (some 18) rfl 7 #[] (.bool true) (fun _ => by kernel_rfl) (fun w M => c_works w M.laid) ?_
      intro u1 M
      refine pl_val (want_no rfl) (some 4) rfl (.bool true) (fun _ => by kernel_rfl) ?_
      refine pl_nil ?_
      refine au_then ?_
      refine wp_ret ?_
      refine au_then_ret ?_
      exact bodyPost_ret (v := .bool true) (results_tmp1 Try.results4 _ _ _ (by kernel_rfl)) (by kernel_rfl) ⟨rfl, below_grown M.old⟩
    · skip
      refine pl_val (want_on 3 false rfl 13 rfl (by kernel_rfl)) (some 16) rfl (.bool false) (fun w => Eq.trans (b := .ok (.value (.bool (decide (200 < (len : Int))))) w) (by kernel_rfl) (by rw [decide_eq_false (c1)])) ?_
      refine pl_val (want_no rfl) (some 17) rfl (.bool false) (fun _ => by kernel_rfl) ?_
      refine pl_nil ?_
      refine au_then ?_
      refine wp_cond_false (by kernel_rfl) ?_
      refine wp_skip ?_
      refine au_then ?_
      refine wp_seq ?_
      refine rg_lit ?_
      refine pl_val (want_no rfl) (some 19) rfl (.string s) (fun _ => by kernel_rfl) ?_
      refine pl_calln M (want_no rfl) (some 20) rfl 14 #[.string s] (fun g1 => .pointer (some ⟨g1, 0, none⟩)) (.cells (av 3 (ls [.bool true, .string s, .int .i64 0])) 59) (fun _ => by kernel_rfl) (fun w M => c_New s w M.laid) ?_
      intro g1 u1 M
      replace M : Mem ⟨w, []⟩ [⟨g1, .cells (av 3 (ls [.bool true, .string s, .int .i64 0])) 59⟩] u1 := M
      refine pl_val (want_no rfl) (some 5) rfl (.pointer (some ⟨g1, 0, none⟩)) (fun _ => by kernel_rfl) ?_
      refine pl_nil ?_
      refine au_then ?_
      refine wp_seq ?_
      refine rg_lit ?_
      refine pl_val (want_no rfl) (some 21) rfl (.string s) (fun _ => by kernel_rfl) ?_
      refine pl_val (want_no rfl) (some 22) rfl (.agg (av 2 (ls [.string s, .int .i64 0]))) (fun _ => by kernel_rfl) ?_
      refine pl_new M (want_no rfl) (some 23) rfl (.cells (av 2 (ls [.string s, .int .i64 0])) 39) (fun _ => by kernel_rfl) ?_
      intro g2 u2 M
      replace M : Mem ⟨w, []⟩ [⟨g1, .cells (av 3 (ls [.bool true, .string s, .int .i64 0])) 59⟩, ⟨g2, .cells (av 2 (ls [.string s, .int .i64 0])) 39⟩] u2 := M
      refine pl_val (want_no rfl) (some 6) rfl (.pointer (some ⟨g2, 0, none⟩)) (fun _ => by kernel_rfl) ?_
      refine pl_nil ?_
      refine au_then ?_
      refine wp_seq ?_
      refine wp_seq ?_
      refine rg_lit ?_
      refine pl_val (want_no rfl) (some 24) rfl (.pointer (some ⟨g1, 0, none⟩)) (fun _ => by kernel_rfl) ?_
      refine pl_val (want_no rfl) (some 25) rfl (.bool false) (fun _ => by kernel_rfl) ?_
      refine pl_nil ?_
      refine au_then ?_
      refine wp_cond_false (by kernel_rfl) ?_
      refine wp_skip ?_
      refine au_then ?_
      refine wp_seq ?_
      refine wp_seq ?_
      refine rg_lit ?_
      refine pl_val (want_no rfl) (some 7) rfl (.int .i64 0) (fun _ => by kernel_rfl) ?_
      refine pl_nil ?_
      refine au_then ?_
      refine wp_block ?_
      refine au_loop (fun j a w' => ∃ v1 : Nat → Value, a = ⟨#[.string s, .slice l len cap, undef, undef, v1 4, .pointer (some ⟨g1, 0, none⟩), .pointer (some ⟨g2, 0, none⟩), .int .i64 (j : Int), v1 8, v1 9, .string s, .int .i64 (s.size : Int), .bool false, .bool false, .slice l len cap, .int .i64 (len : Int), .bool false, .bool false, undef, .string s, .pointer (some ⟨g1, 0, none⟩), .string s, .agg (av 2 (ls [.string s, .int .i64 0])), .pointer (some ⟨g2, 0, none⟩), .pointer (some ⟨g1, 0, none⟩), .bool false, v1 26, v1 27, v1 28, v1 29, v1 30, v1 31, v1 32, v1 33, v1 34, v1 35, v1 36, v1 37, v1 38, v1 39, v1 40, v1 41, v1 42, v1 43, v1 44, v1 45, v1 46, v1 47, v1 48, v1 49, v1 50, v1 51, v1 52, v1 53, v1 54, v1 55, v1 56, v1 57, v1 58, v1 59, v1 60, v1 61, v1 62, v1 63, v1 64, v1 65, v1 66, v1 67, v1 68, v1 69, v1 70, v1 71, v1 72, v1 73, v1 74, v1 75, v1 76, v1 77, v1 78, v1 79, v1 80, v1 81, v1 82, v1 83, v1 84, v1 85, v1 86, v1 87, v1 88, v1 89, v1 90, v1 91, v1 92, v1 93, v1 94, v1 95, v1 96, v1 97, v1 98, v1 99, v1 100, v1 101, v1 102, v1 103, v1 104, v1 105, v1 106, v1 107, v1 108, v1 109, v1 110, v1 111, v1 112, undef], []⟩ ∧ Mem ⟨w, []⟩ [⟨g1, .cells (av 3 (ls [.bool true, .string (rS Ds Ns s j), .int .i64 (rF Ds Ns s j)])) 59⟩, ⟨g2, .cells (av 2 (ls [.string (rS Ds Ns s j), .int .i64 (rF Ds Ns s j)])) 39⟩] w') len ⟨fun k_ => ([.bool false, undef, undef, undef, undef, undef, undef, undef, undef, undef, undef, undef, undef, undef, undef, undef, undef, undef, undef, undef, undef, undef, undef, undef, undef, undef, undef, undef, undef, undef, undef, undef, undef, undef, undef, undef, undef, undef, undef, undef, undef, undef, undef, undef, undef, undef, undef, undef, undef, undef, undef, undef, undef, undef, undef, undef, undef, undef, undef, undef, undef, undef, undef, undef, undef, undef, undef, undef, undef, undef, undef, undef, undef, undef, undef, undef, undef, undef, undef, undef, undef, undef, undef, undef, undef, undef, undef, undef, undef, undef, undef, undef, undef, undef, undef, undef, undef, undef, undef, undef, undef, undef, undef, undef, undef, undef, undef, undef, undef] : List Value).getD (k_ - 4) undef, by kernel_rfl, M⟩ ?_ ?_
      · intro j a u0 hj hI
        obtain ⟨v1, rfl, M⟩ := hI
        refine wp_seq ?_
        refine wp_seq ?_
        refine rg_lit ?_
        refine pl_val (want_no rfl) (some 26) rfl (.int .i64 (j : Int)) (fun _ => by kernel_rfl) ?_
        refine pl_val (want_no rfl) (some 27) rfl (.slice l len cap) (fun _ => by kernel_rfl) ?_
        refine pl_val (want_no rfl) (some 28) rfl (.int .i64 (len : Int)) (fun _ => by kernel_rfl) ?_
        refine pl_val (want_no rfl) (some 29) rfl (.bool true) (fun w => Eq.trans (b := .ok (.value (.bool (decide ((j : Int) < (len : Int))))) w) (by kernel_rfl) (by rw [decide_eq_true (by omega)])) ?_
        refine pl_nil ?_
        refine au_then ?_
        refine wp_cond_true (by kernel_rfl) ?_
        refine wp_skip ?_
        refine au_then ?_
        refine wp_seq ?_
        refine wp_block ?_
        refine wp_seq ?_
        refine rg_lit ?_
        refine pl_val (want_no rfl) (some 32) rfl (.slice l len cap) (fun _ => by kernel_rfl) ?_
        refine pl_val (want_no rfl) (some 33) rfl (.int .i64 (j : Int)) (fun _ => by kernel_rfl) ?_
        refine pl_val (want_no rfl) (some 34) rfl (.pointer (some ⟨b, (o + j * 2), none⟩)) (run_ixK 34 41 2 Try.underlying34 inz41 _ _ rfl l b o len cap (by kernel_rfl) (hll (by omega)) .i64 j (by kernel_rfl) (by omega)) ?_
        refine pl_loadO M (want_no rfl) (some 35) rfl 41 _ rfl b (o + j * 2) (by kernel_rfl) 2 (ls [.int .i64 (Ds j), .int .i64 (Ns j)]) (fun w M k hk => ?_) _ Try.underlying41 rfl inz41 ?_
        · match k, hk with
          | 0, _ => exact M.oldc (hD j (by omega)) (by simp)
          | 1, _ => exact M.oldc (hN j (by omega)) (by simp)
        refine pl_new M (want_no rfl) (some 8) rfl (.cells (av 2 (ls [.int .i64 0, .int .i64 0])) 41) (fun _ => by kernel_rfl) ?_
        intro g3 u3 M
        replace M : Mem ⟨w, []⟩ [⟨g1, .cells (av 3 (ls [.bool true, .string (rS Ds Ns s j), .int .i64 (rF Ds Ns s j)])) 59⟩, ⟨g2, .cells (av 2 (ls [.string (rS Ds Ns s j), .int .i64 (rF Ds Ns s j)])) 39⟩, ⟨g3, .cells (av 2 (ls [.int .i64 0, .int .i64 0])) 41⟩] u3 := M
        refine pl_put M (want_no rfl) rfl 41 _ _ rfl 2 g3 0 (by kernel_rfl) 2 41 (ls [.int .i64 0, .int .i64 0]) rfl 2 (ls [.int .i64 (Ds j), .int .i64 (Ns j)]) (ls [.int .i64 (Ds j), .int .i64 (Ns j)]) (by kernel_rfl) inz41 (by decide) (one_ls _ rfl) (fun j hj => by rw [if_pos (by omega), Nat.sub_zero]) ?_
        intro u4 M
        replace M : Mem ⟨w, []⟩ [⟨g1, .cells (av 3 (ls [.bool true, .string (rS Ds Ns s j), .int .i64 (rF Ds Ns s j)])) 59⟩, ⟨g2, .cells (av 2 (ls [.string (rS Ds Ns s j), .int .i64 (rF Ds Ns s j)])) 39⟩, ⟨g3, .cells (av 2 (ls [.int .i64 (Ds j), .int .i64 (Ns j)])) 41⟩] u4 := M
        refine pl_nil ?_
        refine au_then ?_
        refine wp_seq ?_
        refine rg_lit ?_
        refine pl_val (want_no rfl) (some 9) rfl (.bool false) (fun _ => by kernel_rfl) ?_
        refine pl_nil ?_
        refine au_then ?_
        refine wp_seq ?_
        refine wp_seq ?_
        refine rg_lit ?_
        refine pl_val (want_no rfl) (some 36) rfl (.pointer (some ⟨g3, 0, none⟩)) (fun _ => by kernel_rfl) ?_
        refine pl_cell M (want_no rfl) (some 37) rfl 3 _ rfl g3 0 (by kernel_rfl) (.int .i64 (Ds j)) (fun _ => by kernel_rfl) (fun w M => M.cell 2 rfl (by decide) rfl) ?_
        refine pl_nil ?_
        refine au_then ?_
        refine wp_block ?_
        refine wp_seq ?_
        refine rg_lit ?_
        by_cases c2 : (Ds j) = 0
        · skip
          refine pl_val (want_no rfl) (some 44) rfl (.bool true) (fun w => Eq.trans (b := .ok (.value (.bool (decide ((Ds j) = 0)))) w) (by kernel_rfl) (by rw [decide_eq_true (c2)])) ?_
          refine pl_val (want_no rfl) (some 43) rfl (.bool true) (fun _ => by kernel_rfl) ?_
          refine pl_nil ?_
          refine au_then ?_
          refine wp_cond_true (by kernel_rfl) ?_
          refine rg_lit ?_
          refine pl_val (want_no rfl) (some 45) rfl (.pointer (some ⟨g1, 0, none⟩)) (fun _ => by kernel_rfl) ?_
          refine pl_callp M (want_no rfl) (some 46) rfl 15 #[.pointer (some ⟨g1, 0, none⟩)] (.int .u8 (cv .u8 (bnv (tkV (rS Ds Ns s j) (rF Ds Ns s j) 1)))) 0 g1 (.cells (av 3 (ls [.bool true, .string (rS Ds Ns s j), .int .i64 (rF Ds Ns s j)])) 59) (.cells (av 3 (ls [.bool true, .string (tkS (rS Ds Ns s j) (rF Ds Ns s j) 1), .int .i64 (tkF (rS Ds Ns s j) (rF Ds Ns s j) 1)])) 59) rfl (fun _ => by kernel_rfl) (fun w M => r_U8 g1 (rS Ds Ns s j) (rF Ds Ns s j) w M.laid (M.get 0 rfl)) ?_
          intro u5 M
          replace M : Mem ⟨w, []⟩ [⟨g1, .cells (av 3 (ls [.bool true, .string (tkS (rS Ds Ns s j) (rF Ds Ns s j) 1), .int .i64 (tkF (rS Ds Ns s j) (rF Ds Ns s j) 1)])) 59⟩, ⟨g2, .cells (av 2 (ls [.string (rS Ds Ns s j), .int .i64 (rF Ds Ns s j)])) 39⟩, ⟨g3, .cells (av 2 (ls [.int .i64 (Ds j), .int .i64 (Ns j)])) 41⟩] u5 := M
          refine pl_val (want_no rfl) (some 47) rfl (.int .u64 (cv .u64 (cv .u8 (bnv (tkV (rS Ds Ns s j) (rF Ds Ns s j) 1))))) (fun _ => by kernel_rfl) ?_
          refine pl_val (want_no rfl) (some 48) rfl (.pointer (some ⟨g2, 0, none⟩)) (fun _ => by kernel_rfl) ?_
          refine pl_callp M (want_no rfl) (some 49) rfl 16 #[.pointer (some ⟨g2, 0, none⟩), .int .i64 1] (.int .u64 (bdv (tkV (rS Ds Ns s j) (rF Ds Ns s j) 1))) 1 g2 (.cells (av 2 (ls [.string (rS Ds Ns s j), .int .i64 (rF Ds Ns s j)])) 39) (.cells (av 2 (ls [.string (tkS (rS Ds Ns s j) (rF Ds Ns s j) 1), .int .i64 (tkF (rS Ds Ns s j) (rF Ds Ns s j) 1)])) 39) rfl (fun _ => by kernel_rfl) (fun w M => d_Num g2 (rS Ds Ns s j) (rF Ds Ns s j) 1 (by decide) w M.laid (M.get 1 rfl)) ?_
          intro u6 M
          replace M : Mem ⟨w, []⟩ [⟨g1, .cells (av 3 (ls [.bool true, .string (tkS (rS Ds Ns s j) (rF Ds Ns s j) 1), .int .i64 (tkF (rS Ds Ns s j) (rF Ds Ns s j) 1)])) 59⟩, ⟨g2, .cells (av 2 (ls [.string (tkS (rS Ds Ns s j) (rF Ds Ns s j) 1), .int .i64 (tkF (rS Ds Ns s j) (rF Ds Ns s j) 1)])) 39⟩, ⟨g3, .cells (av 2 (ls [.int .i64 (Ds j), .int .i64 (Ns j)])) 41⟩] u6 := M
          refine pl_val (want_no rfl) (some 50) rfl (.bool true) (fun w => Eq.trans (b := .ok (.value (.bool (decide ((cv .u64 (cv .u8 (bnv (tkV (rS Ds Ns s j) (rF Ds Ns s j) 1)))) = (bdv (tkV (rS Ds Ns s j) (rF Ds Ns s j) 1)))))) w) (by kernel_rfl) (by rw [decide_eq_true (num1_eq _ _)])) ?_
          refine pl_val (want_no rfl) (some 9) rfl (.bool true) (fun _ => by kernel_rfl) ?_
          refine pl_nil ?_
          refine au_block ?_
          refine au_then ?_
          refine wp_seq ?_
          refine rg_held M [⟨g1, .cells (av 3 (ls [.bool true, .string (tkS (rS Ds Ns s j) (rF Ds Ns s j) 1), .int .i64 (tkF (rS Ds Ns s j) (rF Ds Ns s j) 1)])) 59⟩, ⟨g2, .cells (av 2 (ls [.string (tkS (rS Ds Ns s j) (rF Ds Ns s j) 1), .int .i64 (tkF (rS Ds Ns s j) (rF Ds Ns s j) 1)])) 39⟩, ⟨g3, .cells (av 2 (ls [.int .i64 (Ds j), .int .i64 (Ns j)])) 41⟩] 27 rfl (by kernel_rfl) (by kernel_rfl) (fun _ _ d _ _ h => by cases d <;> exact h) ?_
          intro u7 M
          replace M : Mem ⟨w, []⟩ [⟨g1, .cells (av 3 (ls [.bool true, .string (tkS (rS Ds Ns s j) (rF Ds Ns s j) 1), .int .i64 (tkF (rS Ds Ns s j) (rF Ds Ns s j) 1)])) 59⟩, ⟨g2, .cells (av 2 (ls [.string (tkS (rS Ds Ns s j) (rF Ds Ns s j) 1), .int .i64 (tkF (rS Ds Ns s j) (rF Ds Ns s j) 1)])) 39⟩, ⟨g3, .cells (av 2 (ls [.int .i64 (Ds j), .int .i64 (Ns j)])) 41⟩] u7 := M
          refine hl_val M 0 rfl (by decide) (by kernel_rfl) (by kernel_rfl) (want_no rfl) (some 85) rfl (.bool true) (fun _ _ => by kernel_rfl) ?_
          refine hl_val M 1 rfl (by decide) (by kernel_rfl) (by kernel_rfl) (want_no rfl) (some 86) rfl (.bool false) (fun _ _ => by kernel_rfl) ?_
          refine hl_val M 2 rfl (by decide) (by kernel_rfl) (by kernel_rfl) (want_no rfl) (some 87) rfl (.bool false) (fun _ _ => by kernel_rfl) ?_
          refine hl_val M 3 rfl (by decide) (by kernel_rfl) (by kernel_rfl) (want_on 2 false rfl 87 rfl (by kernel_rfl)) (some 88) rfl (.pointer (some ⟨g1, 0, none⟩)) (fun _ _ => by kernel_rfl) ?_
          refine hl_val M 5 rfl (by decide) (by kernel_rfl) (by kernel_rfl) (want_on 2 false rfl 87 rfl (by kernel_rfl)) (some 90) rfl (.pointer (some ⟨g2, 0, none⟩)) (fun _ _ => by kernel_rfl) ?_
          refine hl_val M 6 rfl (by decide) (by kernel_rfl) (by kernel_rfl) (want_on 2 false rfl 87 rfl (by kernel_rfl)) (some 91) rfl (.pointer (some ⟨g2, 0, none⟩)) (fun _ _ => by kernel_rfl) ?_
          refine hl_val M 7 rfl (by decide) (by kernel_rfl) (by kernel_rfl) (want_on 2 false rfl 87 rfl (by kernel_rfl)) (some 92) rfl (.pointer (some ⟨g2, 0, none⟩)) (fun _ _ => by kernel_rfl) ?_
          refine hl_cell M 8 rfl (by decide) (by kernel_rfl) (by kernel_rfl) (want_on 2 false rfl 87 rfl (by kernel_rfl)) (some 93) rfl 9 _ rfl g2 0 (by kernel_rfl) (.string (tkS (rS Ds Ns s j) (rF Ds Ns s j) 1)) (fun _ => by kernel_rfl) (fun w M => M.cell 1 rfl (by decide) rfl) ?_
          refine hl_val M 9 rfl (by decide) (by kernel_rfl) (by kernel_rfl) (want_on 2 false rfl 87 rfl (by kernel_rfl)) (some 94) rfl (.int .i64 ((tkS (rS Ds Ns s j) (rF Ds Ns s j) 1).size : Int)) (fun _ _ => by kernel_rfl) ?_
          refine hl_one 4 (by decide) (by kernel_rfl) rfl ?_
          refine pl_call M (want_on 2 false rfl 87 rfl (by kernel_rfl)) (some 89) rfl 24 #[.pointer (some ⟨g1, 0, none⟩)] (.int .i64 ((tkS (rS Ds Ns s j) (rF Ds Ns s j) 1).size : Int)) (fun _ => by kernel_rfl) (fun w M => c_Left g1 (tkS (rS Ds Ns s j) (rF Ds Ns s j) 1) (tkF (rS Ds Ns s j) (rF Ds Ns s j) 1) w M.laid (M.get 0 rfl)) ?_
          intro u8 M
          refine pl_nil ?_
          refine au_then ?_
          refine ⟨M, ?_⟩
          refine hl_val M 10 rfl (by decide) (by kernel_rfl) (by kernel_rfl) (want_on 2 false rfl 87 rfl (by kernel_rfl)) (some 95) rfl (.bool false) (fun w _ => (fun w => Eq.trans (b := .ok (.value (.bool (!(decide (((tkS (rS Ds Ns s j) (rF Ds Ns s j) 1).size : Int) = ((tkS (rS Ds Ns s j) (rF Ds Ns s j) 1).size : Int)))))) w) (by kernel_rfl) (by rw [decide_eq_true rfl]; rfl)) w) ?_
          refine hl_val M 11 rfl (by decide) (by kernel_rfl) (by kernel_rfl) (want_no rfl) (some 96) rfl (.bool false) (fun _ _ => by kernel_rfl) ?_
          refine hl_val M 12 rfl (by decide) (by kernel_rfl) (by kernel_rfl) (want_no rfl) (some 97) rfl (.bool false) (fun _ _ => by kernel_rfl) ?_
          refine hl_val M 13 rfl (by decide) (by kernel_rfl) (by kernel_rfl) (want_on 12 false rfl 97 rfl (by kernel_rfl)) (some 98) rfl (.pointer (some ⟨g1, 0, none⟩)) (fun _ _ => by kernel_rfl) ?_
          refine hl_val M 15 rfl (by decide) (by kernel_rfl) (by kernel_rfl) (want_on 12 false rfl 97 rfl (by kernel_rfl)) (some 100) rfl (.pointer (some ⟨g2, 0, none⟩)) (fun _ _ => by kernel_rfl) ?_
          refine hl_val M 16 rfl (by decide) (by kernel_rfl) (by kernel_rfl) (want_on 12 false rfl 97 rfl (by kernel_rfl)) (some 101) rfl (.pointer (some ⟨g2, 0, none⟩)) (fun _ _ => by kernel_rfl) ?_
          refine hl_val M 17 rfl (by decide) (by kernel_rfl) (by kernel_rfl) (want_on 12 false rfl 97 rfl (by kernel_rfl)) (some 102) rfl (.pointer (some ⟨g2, 1, none⟩)) (fun _ _ => by kernel_rfl) ?_
          refine hl_cell M 18 rfl (by decide) (by kernel_rfl) (by kernel_rfl) (want_on 12 false rfl 97 rfl (by kernel_rfl)) (some 103) rfl 24 _ rfl g2 1 (by kernel_rfl) (.int .i64 (tkF (rS Ds Ns s j) (rF Ds Ns s j) 1)) (fun _ => by kernel_rfl) (fun w M => M.cell 1 rfl (by decide) rfl) ?_
          refine hl_one 14 (by decide) (by kernel_rfl) rfl ?_
          refine pl_call M (want_on 12 false rfl 97 rfl (by kernel_rfl)) (some 99) rfl 25 #[.pointer (some ⟨g1, 0, none⟩)] (.int .i64 (tkF (rS Ds Ns s j) (rF Ds Ns s j) 1)) (fun _ => by kernel_rfl) (fun w M => c_Fault g1 (tkS (rS Ds Ns s j) (rF Ds Ns s j) 1) (tkF (rS Ds Ns s j) (rF Ds Ns s j) 1) w M.laid (M.get 0 rfl)) ?_
          intro u9 M
          refine pl_nil ?_
          refine au_then ?_
          refine ⟨M, ?_⟩
          refine hl_val M 19 rfl (by decide) (by kernel_rfl) (by kernel_rfl) (want_on 12 false rfl 97 rfl (by kernel_rfl)) (some 104) rfl (.bool false) (fun w _ => (fun w => Eq.trans (b := .ok (.value (.bool (!(decide ((tkF (rS Ds Ns s j) (rF Ds Ns s j) 1) = (tkF (rS Ds Ns s j) (rF Ds Ns s j) 1)))))) w) (by kernel_rfl) (by rw [decide_eq_true rfl]; rfl)) w) ?_
          refine hl_val M 20 rfl (by decide) (by kernel_rfl) (by kernel_rfl) (want_no rfl) (some 105) rfl (.bool false) (fun _ _ => by kernel_rfl) ?_
          refine hl_val M 21 rfl (by decide) (by kernel_rfl) (by kernel_rfl) (want_no rfl) (some 106) rfl (.bool false) (fun _ _ => by kernel_rfl) ?_
          refine hl_val M 22 rfl (by decide) (by kernel_rfl) (by kernel_rfl) (want_on 21 false rfl 106 rfl (by kernel_rfl)) (some 107) rfl (.pointer (some ⟨g1, 0, none⟩)) (fun _ _ => by kernel_rfl) ?_
          refine hl_val M 24 rfl (by decide) (by kernel_rfl) (by kernel_rfl) (want_on 21 false rfl 106 rfl (by kernel_rfl)) (some 109) rfl (.pointer (some ⟨g2, 0, none⟩)) (fun _ _ => by kernel_rfl) ?_
          refine hl_one 23 (by decide) (by kernel_rfl) rfl ?_
          refine pl_call M (want_on 21 false rfl 106 rfl (by kernel_rfl)) (some 108) rfl 26 #[.pointer (some ⟨g1, 0, none⟩)] (.int .i64 (enF (tkS (rS Ds Ns s j) (rF Ds Ns s j) 1) (tkF (rS Ds Ns s j) (rF Ds Ns s j) 1))) (fun _ => by kernel_rfl) (fun w M => c_End g1 (tkS (rS Ds Ns s j) (rF Ds Ns s j) 1) (tkF (rS Ds Ns s j) (rF Ds Ns s j) 1) w M.laid (M.get 0 rfl)) ?_
          intro u10 M
          refine pl_nil ?_
          refine au_then ?_
          refine ⟨M, ?_⟩
          refine hl_one 25 (by decide) (by kernel_rfl) rfl ?_
          refine pl_call M (want_on 21 false rfl 106 rfl (by kernel_rfl)) (some 110) rfl 27 #[.pointer (some ⟨g2, 0, none⟩)] (.int .i64 (enF (tkS (rS Ds Ns s j) (rF Ds Ns s j) 1) (tkF (rS Ds Ns s j) (rF Ds Ns s j) 1))) (fun _ => by kernel_rfl) (fun w M => d_End g2 (tkS (rS Ds Ns s j) (rF Ds Ns s j) 1) (tkF (rS Ds Ns s j) (rF Ds Ns s j) 1) w M.laid (M.get 1 rfl)) ?_
          intro u11 M
          refine pl_nil ?_
          refine au_then ?_
          refine ⟨M, ?_⟩
          refine hl_val M 26 rfl (by decide) (by kernel_rfl) (by kernel_rfl) (want_on 21 false rfl 106 rfl (by kernel_rfl)) (some 111) rfl (.bool false) (fun w _ => (fun w => Eq.trans (b := .ok (.value (.bool (!(decide ((enF (tkS (rS Ds Ns s j) (rF Ds Ns s j) 1) (tkF (rS Ds Ns s j) (rF Ds Ns s j) 1)) = (enF (tkS (rS Ds Ns s j) (rF Ds Ns s j) 1) (tkF (rS Ds Ns s j) (rF Ds Ns s j) 1))))))) w) (by kernel_rfl) (by rw [decide_eq_true rfl]; rfl)) w) ?_
          refine hl_end (by kernel_rfl) (by kernel_rfl) rfl ?_
          refine pl_val (want_no rfl) (some 112) rfl (.bool false) (fun _ => by kernel_rfl) ?_
          refine pl_nil ?_
          refine au_then ?_
          refine au_then ?_
          refine wp_cond_false (by kernel_rfl) ?_
          refine wp_skip ?_
          refine au_block ?_
          refine au_then ?_
          refine rg_lit ?_
          refine pl_val (want_no rfl) (some 30) rfl (.int .i64 (j : Int)) (fun _ => by kernel_rfl) ?_
          refine pl_val (want_no rfl) (some 31) rfl (.int .i64 ((j + 1 : Nat) : Int)) (fun w => Eq.trans (b := .ok (.value (.int .i64 (IntKind.wrap .i64 ((j : Int) + 1)))) w) (by kernel_rfl) (by rw [wrap64 (by omega) (by omega)]; congr 3)) ?_
          refine pl_val (want_no rfl) (some 7) rfl (.int .i64 ((j + 1 : Nat) : Int)) (fun _ => by kernel_rfl) ?_
          refine pl_nil ?_
          refine au_then ?_
          have e0 : (rS Ds Ns s (j + 1)) = (tkS (rS Ds Ns s j) (rF Ds Ns s j) 1) := by simp only [rS_s, stS, if_pos c2]
          have e1 : (rF Ds Ns s (j + 1)) = (tkF (rS Ds Ns s j) (rF Ds Ns s j) 1) := by simp only [rF_s, stF, if_pos c2]
          exact ⟨fun k_ => ([v1 4, undef, undef, undef, .pointer (some ⟨g3, 0, none⟩), .bool true, undef, undef, undef, undef, undef, undef, undef, undef, undef, undef, undef, undef, undef, undef, undef, undef, .int .i64 (j : Int), .slice l len cap, .int .i64 (len : Int), .bool true, .int .i64 (j : Int), .int .i64 ((j + 1 : Nat) : Int), .slice l len cap, .int .i64 (j : Int), .pointer (some ⟨b, (o + j * 2), none⟩), .agg (av 2 (ls [.int .i64 (Ds j), .int .i64 (Ns j)])), .pointer (some ⟨g3, 0, none⟩), .int .i64 (Ds j), v1 38, v1 39, v1 40, v1 41, v1 42, .bool true, .bool true, .pointer (some ⟨g1, 0, none⟩), .int .u8 (cv .u8 (bnv (tkV (rS Ds Ns s j) (rF Ds Ns s j) 1))), .int .u64 (cv .u64 (cv .u8 (bnv (tkV (rS Ds Ns s j) (rF Ds Ns s j) 1)))), .pointer (some ⟨g2, 0, none⟩), .int .u64 (bdv (tkV (rS Ds Ns s j) (rF Ds Ns s j) 1)), .bool true, v1 51, v1 52, v1 53, v1 54, v1 55, v1 56, v1 57, v1 58, v1 59, v1 60, v1 61, v1 62, v1 63, v1 64, v1 65, v1 66, v1 67, v1 68, v1 69, v1 70, v1 71, v1 72, v1 73, v1 74, v1 75, v1 76, v1 77, v1 78, v1 79, v1 80, v1 81, v1 82, v1 83, v1 84, .bool true, .bool false, .bool false, .pointer (some ⟨g1, 0, none⟩), .int .i64 ((tkS (rS Ds Ns s j) (rF Ds Ns s j) 1).size : Int), .pointer (some ⟨g2, 0, none⟩), .pointer (some ⟨g2, 0, none⟩), .pointer (some ⟨g2, 0, none⟩), .string (tkS (rS Ds Ns s j) (rF Ds Ns s j) 1), .int .i64 ((tkS (rS Ds Ns s j) (rF Ds Ns s j) 1).size : Int), .bool false, .bool false, .bool false, .pointer (some ⟨g1, 0, none⟩), .int .i64 (tkF (rS Ds Ns s j) (rF Ds Ns s j) 1), .pointer (some ⟨g2, 0, none⟩), .pointer (some ⟨g2, 0, none⟩), .pointer (some ⟨g2, 1, none⟩), .int .i64 (tkF (rS Ds Ns s j) (rF Ds Ns s j) 1), .bool false, .bool false, .bool false, .pointer (some ⟨g1, 0, none⟩), .int .i64 (enF (tkS (rS Ds Ns s j) (rF Ds Ns s j) 1) (tkF (rS Ds Ns s j) (rF Ds Ns s j) 1)), .pointer (some ⟨g2, 0, none⟩), .int .i64 (enF (tkS (rS Ds Ns s j) (rF Ds Ns s j) 1) (tkF (rS Ds Ns s j) (rF Ds Ns s j) 1)), .bool false, .bool false] : List Value).getD (k_ - 4) undef, by kernel_rfl, (by rw [e0, e1]; exact M.drop (.cons_cons _ (.cons_cons _ (.cons _ (.slnil)))))⟩
        · skip
          refine pl_val (want_no rfl) (some 44) rfl (.bool false) (fun w => Eq.trans (b := .ok (.value (.bool (decide ((Ds j) = 0)))) w) (by kernel_rfl) (by rw [decide_eq_false (c2)])) ?_
          refine pl_val (want_no rfl) (some 43) rfl (.bool false) (fun _ => by kernel_rfl) ?_
          refine pl_nil ?_
          refine au_then ?_
          refine wp_cond_false (by kernel_rfl) ?_
          refine wp_seq ?_
          refine rg_lit ?_
          by_cases c3 : (Ds j) = 1
          · skip
            refine pl_val (want_no rfl) (some 52) rfl (.bool true) (fun w => Eq.trans (b := .ok (.value (.bool (decide ((Ds j) = 1)))) w) (by kernel_rfl) (by rw [decide_eq_true (c3)])) ?_
            refine pl_val (want_no rfl) (some 51) rfl (.bool true) (fun _ => by kernel_rfl) ?_
            refine pl_nil ?_
            refine au_then ?_
            refine wp_cond_true (by kernel_rfl) ?_
            refine rg_lit ?_
            refine pl_val (want_no rfl) (some 53) rfl (.pointer (some ⟨g1, 0, none⟩)) (fun _ => by kernel_rfl) ?_
            refine pl_callp M (want_no rfl) (some 54) rfl 17 #[.pointer (some ⟨g1, 0, none⟩)] (.int .u16 (cv .u16 (bnv (tkV (rS Ds Ns s j) (rF Ds Ns s j) 2)))) 0 g1 (.cells (av 3 (ls [.bool true, .string (rS Ds Ns s j), .int .i64 (rF Ds Ns s j)])) 59) (.cells (av 3 (ls [.bool true, .string (tkS (rS Ds Ns s j) (rF Ds Ns s j) 2), .int .i64 (tkF (rS Ds Ns s j) (rF Ds Ns s j) 2)])) 59) rfl (fun _ => by kernel_rfl) (fun w M => r_U16 g1 (rS Ds Ns s j) (rF Ds Ns s j) w M.laid (M.get 0 rfl)) ?_
            intro u5 M
            replace M : Mem ⟨w, []⟩ [⟨g1, .cells (av 3 (ls [.bool true, .string (tkS (rS Ds Ns s j) (rF Ds Ns s j) 2), .int .i64 (tkF (rS Ds Ns s j) (rF Ds Ns s j) 2)])) 59⟩, ⟨g2, .cells (av 2 (ls [.string (rS Ds Ns s j), .int .i64 (rF Ds Ns s j)])) 39⟩, ⟨g3, .cells (av 2 (ls [.int .i64 (Ds j), .int .i64 (Ns j)])) 41⟩] u5 := M
            refine pl_val (want_no rfl) (some 55) rfl (.int .u64 (cv .u64 (cv .u16 (bnv (tkV (rS Ds Ns s j) (rF Ds Ns s j) 2))))) (fun _ => by kernel_rfl) ?_
            refine pl_val (want_no rfl) (some 56) rfl (.pointer (some ⟨g2, 0, none⟩)) (fun _ => by kernel_rfl) ?_
            refine pl_callp M (want_no rfl) (some 57) rfl 16 #[.pointer (some ⟨g2, 0, none⟩), .int .i64 2] (.int .u64 (bdv (tkV (rS Ds Ns s j) (rF Ds Ns s j) 2))) 1 g2 (.cells (av 2 (ls [.string (rS Ds Ns s j), .int .i64 (rF Ds Ns s j)])) 39) (.cells (av 2 (ls [.string (tkS (rS Ds Ns s j) (rF Ds Ns s j) 2), .int .i64 (tkF (rS Ds Ns s j) (rF Ds Ns s j) 2)])) 39) rfl (fun _ => by kernel_rfl) (fun w M => d_Num g2 (rS Ds Ns s j) (rF Ds Ns s j) 2 (by decide) w M.laid (M.get 1 rfl)) ?_
            intro u6 M
            replace M : Mem ⟨w, []⟩ [⟨g1, .cells (av 3 (ls [.bool true, .string (tkS (rS Ds Ns s j) (rF Ds Ns s j) 2), .int .i64 (tkF (rS Ds Ns s j) (rF Ds Ns s j) 2)])) 59⟩, ⟨g2, .cells (av 2 (ls [.string (tkS (rS Ds Ns s j) (rF Ds Ns s j) 2), .int .i64 (tkF (rS Ds Ns s j) (rF Ds Ns s j) 2)])) 39⟩, ⟨g3, .cells (av 2 (ls [.int .i64 (Ds j), .int .i64 (Ns j)])) 41⟩] u6 := M
            refine pl_val (want_no rfl) (some 58) rfl (.bool true) (fun w => Eq.trans (b := .ok (.value (.bool (decide ((cv .u64 (cv .u16 (bnv (tkV (rS Ds Ns s j) (rF Ds Ns s j) 2)))) = (bdv (tkV (rS Ds Ns s j) (rF Ds Ns s j) 2)))))) w) (by kernel_rfl) (by rw [decide_eq_true (num2_eq _ _)])) ?_
            refine pl_val (want_no rfl) (some 9) rfl (.bool true) (fun _ => by kernel_rfl) ?_
            refine pl_nil ?_
            refine au_block ?_
            refine au_then ?_
            refine wp_seq ?_
            refine rg_held M [⟨g1, .cells (av 3 (ls [.bool true, .string (tkS (rS Ds Ns s j) (rF Ds Ns s j) 2), .int .i64 (tkF (rS Ds Ns s j) (rF Ds Ns s j) 2)])) 59⟩, ⟨g2, .cells (av 2 (ls [.string (tkS (rS Ds Ns s j) (rF Ds Ns s j) 2), .int .i64 (tkF (rS Ds Ns s j) (rF Ds Ns s j) 2)])) 39⟩, ⟨g3, .cells (av 2 (ls [.int .i64 (Ds j), .int .i64 (Ns j)])) 41⟩] 27 rfl (by kernel_rfl) (by kernel_rfl) (fun _ _ d _ _ h => by cases d <;> exact h) ?_
            intro u7 M
            replace M : Mem ⟨w, []⟩ [⟨g1, .cells (av 3 (ls [.bool true, .string (tkS (rS Ds Ns s j) (rF Ds Ns s j) 2), .int .i64 (tkF (rS Ds Ns s j) (rF Ds Ns s j) 2)])) 59⟩, ⟨g2, .cells (av 2 (ls [.string (tkS (rS Ds Ns s j) (rF Ds Ns s j) 2), .int .i64 (tkF (rS Ds Ns s j) (rF Ds Ns s j) 2)])) 39⟩, ⟨g3, .cells (av 2 (ls [.int .i64 (Ds j), .int .i64 (Ns j)])) 41⟩] u7 := M
            refine hl_val M 0 rfl (by decide) (by kernel_rfl) (by kernel_rfl) (want_no rfl) (some 85) rfl (.bool true) (fun _ _ => by kernel_rfl) ?_
            refine hl_val M 1 rfl (by decide) (by kernel_rfl) (by kernel_rfl) (want_no rfl) (some 86) rfl (.bool false) (fun _ _ => by kernel_rfl) ?_
            refine hl_val M 2 rfl (by decide) (by kernel_rfl) (by kernel_rfl) (want_no rfl) (some 87) rfl (.bool false) (fun _ _ => by kernel_rfl) ?_
            refine hl_val M 3 rfl (by decide) (by kernel_rfl) (by kernel_rfl) (want_on 2 false rfl 87 rfl (by kernel_rfl)) (some 88) rfl (.pointer (some ⟨g1, 0, none⟩)) (fun _ _ => by kernel_rfl) ?_
            refine hl_val M 5 rfl (by decide) (by kernel_rfl) (by kernel_rfl) (want_on 2 false rfl 87 rfl (by kernel_rfl)) (some 90) rfl (.pointer (some ⟨g2, 0, none⟩)) (fun _ _ => by kernel_rfl) ?_
            refine hl_val M 6 rfl (by decide) (by kernel_rfl) (by kernel_rfl) (want_on 2 false rfl 87 rfl (by kernel_rfl)) (some 91) rfl (.pointer (some ⟨g2, 0, none⟩)) (fun _ _ => by kernel_rfl) ?_
            refine hl_val M 7 rfl (by decide) (by kernel_rfl) (by kernel_rfl) (want_on 2 false rfl 87 rfl (by kernel_rfl)) (some 92) rfl (.pointer (some ⟨g2, 0, none⟩)) (fun _ _ => by kernel_rfl) ?_
            refine hl_cell M 8 rfl (by decide) (by kernel_rfl) (by kernel_rfl) (want_on 2 false rfl 87 rfl (by kernel_rfl)) (some 93) rfl 9 _ rfl g2 0 (by kernel_rfl) (.string (tkS (rS Ds Ns s j) (rF Ds Ns s j) 2)) (fun _ => by kernel_rfl) (fun w M => M.cell 1 rfl (by decide) rfl) ?_
            refine hl_val M 9 rfl (by decide) (by kernel_rfl) (by kernel_rfl) (want_on 2 false rfl 87 rfl (by kernel_rfl)) (some 94) rfl (.int .i64 ((tkS (rS Ds Ns s j) (rF Ds Ns s j) 2).size : Int)) (fun _ _ => by kernel_rfl) ?_
            refine hl_one 4 (by decide) (by kernel_rfl) rfl ?_
            refine pl_call M (want_on 2 false rfl 87 rfl (by kernel_rfl)) (some 89) rfl 24 #[.pointer (some ⟨g1, 0, none⟩)] (.int .i64 ((tkS (rS Ds Ns s j) (rF Ds Ns s j) 2).size : Int)) (fun _ => by kernel_rfl) (fun w M => c_Left g1 (tkS (rS Ds Ns s j) (rF Ds Ns s j) 2) (tkF (rS Ds Ns s j) (rF Ds Ns s j) 2) w M.laid (M.get 0 rfl)) ?_
            intro u8 M
            refine pl_nil ?_
            refine au_then ?_
            refine ⟨M, ?_⟩
            refine hl_val M 10 rfl (by decide) (by kernel_rfl) (by kernel_rfl) (want_on 2 false rfl 87 rfl (by kernel_rfl)) (some 95) rfl (.bool false) (fun w _ => (fun w => Eq.trans (b := .ok (.value (.bool (!(decide (((tkS (rS Ds Ns s j) (rF Ds Ns s j) 2).size : Int) = ((tkS (rS Ds Ns s j) (rF Ds Ns s j) 2).size : Int)))))) w) (by kernel_rfl) (by rw [decide_eq_true rfl]; rfl)) w) ?_
            refine hl_val M 11 rfl (by decide) (by kernel_rfl) (by kernel_rfl) (want_no rfl) (some 96) rfl (.bool false) (fun _ _ => by kernel_rfl) ?_
            refine hl_val M 12 rfl (by decide) (by kernel_rfl) (by kernel_rfl) (want_no rfl) (some 97) rfl (.bool false) (fun _ _ => by kernel_rfl) ?_
            refine hl_val M 13 rfl (by decide) (by kernel_rfl) (by kernel_rfl) (want_on 12 false rfl 97 rfl (by kernel_rfl)) (some 98) rfl (.pointer (some ⟨g1, 0, none⟩)) (fun _ _ => by kernel_rfl) ?_
            refine hl_val M 15 rfl (by decide) (by kernel_rfl) (by kernel_rfl) (want_on 12 false rfl 97 rfl (by kernel_rfl)) (some 100) rfl (.pointer (some ⟨g2, 0, none⟩)) (fun _ _ => by kernel_rfl) ?_
            refine hl_val M 16 rfl (by decide) (by kernel_rfl) (by kernel_rfl) (want_on 12 false rfl 97 rfl (by kernel_rfl)) (some 101) rfl (.pointer (some ⟨g2, 0, none⟩)) (fun _ _ => by kernel_rfl) ?_
            refine hl_val M 17 rfl (by decide) (by kernel_rfl) (by kernel_rfl) (want_on 12 false rfl 97 rfl (by kernel_rfl)) (some 102) rfl (.pointer (some ⟨g2, 1, none⟩)) (fun _ _ => by kernel_rfl) ?_
            refine hl_cell M 18 rfl (by decide) (by kernel_rfl) (by kernel_rfl) (want_on 12 false rfl 97 rfl (by kernel_rfl)) (some 103) rfl 24 _ rfl g2 1 (by kernel_rfl) (.int .i64 (tkF (rS Ds Ns s j) (rF Ds Ns s j) 2)) (fun _ => by kernel_rfl) (fun w M => M.cell 1 rfl (by decide) rfl) ?_
            refine hl_one 14 (by decide) (by kernel_rfl) rfl ?_
            refine pl_call M (want_on 12 false rfl 97 rfl (by kernel_rfl)) (some 99) rfl 25 #[.pointer (some ⟨g1, 0, none⟩)] (.int .i64 (tkF (rS Ds Ns s j) (rF Ds Ns s j) 2)) (fun _ => by kernel_rfl) (fun w M => c_Fault g1 (tkS (rS Ds Ns s j) (rF Ds Ns s j) 2) (tkF (rS Ds Ns s j) (rF Ds Ns s j) 2) w M.laid (M.get 0 rfl)) ?_
            intro u9 M
            refine pl_nil ?_
            refine au_then ?_
            refine ⟨M, ?_⟩
            refine hl_val M 19 rfl (by decide) (by kernel_rfl) (by kernel_rfl) (want_on 12 false rfl 97 rfl (by kernel_rfl)) (some 104) rfl (.bool false) (fun w _ => (fun w => Eq.trans (b := .ok (.value (.bool (!(decide ((tkF (rS Ds Ns s j) (rF Ds Ns s j) 2) = (tkF (rS Ds Ns s j) (rF Ds Ns s j) 2)))))) w) (by kernel_rfl) (by rw [decide_eq_true rfl]; rfl)) w) ?_
            refine hl_val M 20 rfl (by decide) (by kernel_rfl) (by kernel_rfl) (want_no rfl) (some 105) rfl (.bool false) (fun _ _ => by kernel_rfl) ?_
            refine hl_val M 21 rfl (by decide) (by kernel_rfl) (by kernel_rfl) (want_no rfl) (some 106) rfl (.bool false) (fun _ _ => by kernel_rfl) ?_
            refine hl_val M 22 rfl (by decide) (by kernel_rfl) (by kernel_rfl) (want_on 21 false rfl 106 rfl (by kernel_rfl)) (some 107) rfl (.pointer (some ⟨g1, 0, none⟩)) (fun _ _ => by kernel_rfl) ?_
            refine hl_val M 24 rfl (by decide) (by kernel_rfl) (by kernel_rfl) (want_on 21 false rfl 106 rfl (by kernel_rfl)) (some 109) rfl (.pointer (some ⟨g2, 0, none⟩)) (fun _ _ => by kernel_rfl) ?_
            refine hl_one 23 (by decide) (by kernel_rfl) rfl ?_
            refine pl_call M (want_on 21 false rfl 106 rfl (by kernel_rfl)) (some 108) rfl 26 #[.pointer (some ⟨g1, 0, none⟩)] (.int .i64 (enF (tkS (rS Ds Ns s j) (rF Ds Ns s j) 2) (tkF (rS Ds Ns s j) (rF Ds Ns s j) 2))) (fun _ => by kernel_rfl) (fun w M => c_End g1 (tkS (rS Ds Ns s j) (rF Ds Ns s j) 2) (tkF (rS Ds Ns s j) (rF Ds Ns s j) 2) w M.laid (M.get 0 rfl)) ?_
            intro u10 M
            refine pl_nil ?_
            refine au_then ?_
            refine ⟨M, ?_⟩
            refine hl_one 25 (by decide) (by kernel_rfl) rfl ?_
            refine pl_call M (want_on 21 false rfl 106 rfl (by kernel_rfl)) (some 110) rfl 27 #[.pointer (some ⟨g2, 0, none⟩)] (.int .i64 (enF (tkS (rS Ds Ns s j) (rF Ds Ns s j) 2) (tkF (rS Ds Ns s j) (rF Ds Ns s j) 2))) (fun _ => by kernel_rfl) (fun w M => d_End g2 (tkS (rS Ds Ns s j) (rF Ds Ns s j) 2) (tkF (rS Ds Ns s j) (rF Ds Ns s j) 2) w M.laid (M.get 1 rfl)) ?_
            intro u11 M
            refine pl_nil ?_
            refine au_then ?_
            refine ⟨M, ?_⟩
            refine hl_val M 26 rfl (by decide) (by kernel_rfl) (by kernel_rfl) (want_on 21 false rfl 106 rfl (by kernel_rfl)) (some 111) rfl (.bool false) (fun w _ => (fun w => Eq.trans (b := .ok (.value (.bool (!(decide ((enF (tkS (rS Ds Ns s j) (rF Ds Ns s j) 2) (tkF (rS Ds Ns s j) (rF Ds Ns s j) 2)) = (enF (tkS (rS Ds Ns s j) (rF Ds Ns s j) 2) (tkF (rS Ds Ns s j) (rF Ds Ns s j) 2))))))) w) (by kernel_rfl) (by rw [decide_eq_true rfl]; rfl)) w) ?_
            refine hl_end (by kernel_rfl) (by kernel_rfl) rfl ?_
            refine pl_val (want_no rfl) (some 112) rfl (.bool false) (fun _ => by kernel_rfl) ?_
            refine pl_nil ?_
            refine au_then ?_
            refine au_then ?_
            refine wp_cond_false (by kernel_rfl) ?_
            refine wp_skip ?_
            refine au_block ?_
            refine au_then ?_
            refine rg_lit ?_
            refine pl_val (want_no rfl) (some 30) rfl (.int .i64 (j : Int)) (fun _ => by kernel_rfl) ?_
            refine pl_val (want_no rfl) (some 31) rfl (.int .i64 ((j + 1 : Nat) : Int)) (fun w => Eq.trans (b := .ok (.value (.int .i64 (IntKind.wrap .i64 ((j : Int) + 1)))) w) (by kernel_rfl) (by rw [wrap64 (by omega) (by omega)]; congr 3)) ?_
            refine pl_val (want_no rfl) (some 7) rfl (.int .i64 ((j + 1 : Nat) : Int)) (fun _ => by kernel_rfl) ?_
            refine pl_nil ?_
            refine au_then ?_
            have e0 : (rS Ds Ns s (j + 1)) = (tkS (rS Ds Ns s j) (rF Ds Ns s j) 2) := by simp only [rS_s, stS, if_neg c2, if_pos c3]
            have e1 : (rF Ds Ns s (j + 1)) = (tkF (rS Ds Ns s j) (rF Ds Ns s j) 2) := by simp only [rF_s, stF, if_neg c2, if_pos c3]
            exact ⟨fun k_ => ([v1 4, undef, undef, undef, .pointer (some ⟨g3, 0, none⟩), .bool true, undef, undef, undef, undef, undef, undef, undef, undef, undef, undef, undef, undef, undef, undef, undef, undef, .int .i64 (j : Int), .slice l len cap, .int .i64 (len : Int), .bool true, .int .i64 (j : Int), .int .i64 ((j + 1 : Nat) : Int), .slice l len cap, .int .i64 (j : Int), .pointer (some ⟨b, (o + j * 2), none⟩), .agg (av 2 (ls [.int .i64 (Ds j), .int .i64 (Ns j)])), .pointer (some ⟨g3, 0, none⟩), .int .i64 (Ds j), v1 38, v1 39, v1 40, v1 41, v1 42, .bool false, .bool false, v1 45, v1 46, v1 47, v1 48, v1 49, v1 50, .bool true, .bool true, .pointer (some ⟨g1, 0, none⟩), .int .u16 (cv .u16 (bnv (tkV (rS Ds Ns s j) (rF Ds Ns s j) 2))), .int .u64 (cv .u64 (cv .u16 (bnv (tkV (rS Ds Ns s j) (rF Ds Ns s j) 2)))), .pointer (some ⟨g2, 0, none⟩), .int .u64 (bdv (tkV (rS Ds Ns s j) (rF Ds Ns s j) 2)), .bool true, v1 59, v1 60, v1 61, v1 62, v1 63, v1 64, v1 65, v1 66, v1 67, v1 68, v1 69, v1 70, v1 71, v1 72, v1 73, v1 74, v1 75, v1 76, v1 77, v1 78, v1 79, v1 80, v1 81, v1 82, v1 83, v1 84, .bool true, .bool false, .bool false, .pointer (some ⟨g1, 0, none⟩), .int .i64 ((tkS (rS Ds Ns s j) (rF Ds Ns s j) 2).size : Int), .pointer (some ⟨g2, 0, none⟩), .pointer (some ⟨g2, 0, none⟩), .pointer (some ⟨g2, 0, none⟩), .string (tkS (rS Ds Ns s j) (rF Ds Ns s j) 2), .int .i64 ((tkS (rS Ds Ns s j) (rF Ds Ns s j) 2).size : Int), .bool false, .bool false, .bool false, .pointer (some ⟨g1, 0, none⟩), .int .i64 (tkF (rS Ds Ns s j) (rF Ds Ns s j) 2), .pointer (some ⟨g2, 0, none⟩), .pointer (some ⟨g2, 0, none⟩), .pointer (some ⟨g2, 1, none⟩), .int .i64 (tkF (rS Ds Ns s j) (rF Ds Ns s j) 2), .bool false, .bool false, .bool false, .pointer (some ⟨g1, 0, none⟩), .int .i64 (enF (tkS (rS Ds Ns s j) (rF Ds Ns s j) 2) (tkF (rS Ds Ns s j) (rF Ds Ns s j) 2)), .pointer (some ⟨g2, 0, none⟩), .int .i64 (enF (tkS (rS Ds Ns s j) (rF Ds Ns s j) 2) (tkF (rS Ds Ns s j) (rF Ds Ns s j) 2)), .bool false, .bool false] : List Value).getD (k_ - 4) undef, by kernel_rfl, (by rw [e0, e1]; exact M.drop (.cons_cons _ (.cons_cons _ (.cons _ (.slnil)))))⟩
          · skip
            refine pl_val (want_no rfl) (some 52) rfl (.bool false) (fun w => Eq.trans (b := .ok (.value (.bool (decide ((Ds j) = 1)))) w) (by kernel_rfl) (by rw [decide_eq_false (c3)])) ?_
            refine pl_val (want_no rfl) (some 51) rfl (.bool false) (fun _ => by kernel_rfl) ?_
            refine pl_nil ?_
            refine au_then ?_
            refine wp_cond_false (by kernel_rfl) ?_
            refine wp_seq ?_
            refine rg_lit ?_
            by_cases c4 : (Ds j) = 2
            · skip
              refine pl_val (want_no rfl) (some 60) rfl (.bool true) (fun w => Eq.trans (b := .ok (.value (.bool (decide ((Ds j) = 2)))) w) (by kernel_rfl) (by rw [decide_eq_true (c4)])) ?_
              refine pl_val (want_no rfl) (some 59) rfl (.bool true) (fun _ => by kernel_rfl) ?_
              refine pl_nil ?_
              refine au_then ?_
              refine wp_cond_true (by kernel_rfl) ?_
              refine rg_lit ?_
              refine pl_val (want_no rfl) (some 61) rfl (.pointer (some ⟨g1, 0, none⟩)) (fun _ => by kernel_rfl) ?_
              refine pl_callp M (want_no rfl) (some 62) rfl 18 #[.pointer (some ⟨g1, 0, none⟩)] (.int .u32 (cv .u32 (bnv (tkV (rS Ds Ns s j) (rF Ds Ns s j) 4)))) 0 g1 (.cells (av 3 (ls [.bool true, .string (rS Ds Ns s j), .int .i64 (rF Ds Ns s j)])) 59) (.cells (av 3 (ls [.bool true, .string (tkS (rS Ds Ns s j) (rF Ds Ns s j) 4), .int .i64 (tkF (rS Ds Ns s j) (rF Ds Ns s j) 4)])) 59) rfl (fun _ => by kernel_rfl) (fun w M => r_U32 g1 (rS Ds Ns s j) (rF Ds Ns s j) w M.laid (M.get 0 rfl)) ?_
              intro u5 M
              replace M : Mem ⟨w, []⟩ [⟨g1, .cells (av 3 (ls [.bool true, .string (tkS (rS Ds Ns s j) (rF Ds Ns s j) 4), .int .i64 (tkF (rS Ds Ns s j) (rF Ds Ns s j) 4)])) 59⟩, ⟨g2, .cells (av 2 (ls [.string (rS Ds Ns s j), .int .i64 (rF Ds Ns s j)])) 39⟩, ⟨g3, .cells (av 2 (ls [.int .i64 (Ds j), .int .i64 (Ns j)])) 41⟩] u5 := M
              refine pl_val (want_no rfl) (some 63) rfl (.int .u64 (cv .u64 (cv .u32 (bnv (tkV (rS Ds Ns s j) (rF Ds Ns s j) 4))))) (fun _ => by kernel_rfl) ?_
              refine pl_val (want_no rfl) (some 64) rfl (.pointer (some ⟨g2, 0, none⟩)) (fun _ => by kernel_rfl) ?_
              refine pl_callp M (want_no rfl) (some 65) rfl 16 #[.pointer (some ⟨g2, 0, none⟩), .int .i64 4] (.int .u64 (bdv (tkV (rS Ds Ns s j) (rF Ds Ns s j) 4))) 1 g2 (.cells (av 2 (ls [.string (rS Ds Ns s j), .int .i64 (rF Ds Ns s j)])) 39) (.cells (av 2 (ls [.string (tkS (rS Ds Ns s j) (rF Ds Ns s j) 4), .int .i64 (tkF (rS Ds Ns s j) (rF Ds Ns s j) 4)])) 39) rfl (fun _ => by kernel_rfl) (fun w M => d_Num g2 (rS Ds Ns s j) (rF Ds Ns s j) 4 (by decide) w M.laid (M.get 1 rfl)) ?_
              intro u6 M
              replace M : Mem ⟨w, []⟩ [⟨g1, .cells (av 3 (ls [.bool true, .string (tkS (rS Ds Ns s j) (rF Ds Ns s j) 4), .int .i64 (tkF (rS Ds Ns s j) (rF Ds Ns s j) 4)])) 59⟩, ⟨g2, .cells (av 2 (ls [.string (tkS (rS Ds Ns s j) (rF Ds Ns s j) 4), .int .i64 (tkF (rS Ds Ns s j) (rF Ds Ns s j) 4)])) 39⟩, ⟨g3, .cells (av 2 (ls [.int .i64 (Ds j), .int .i64 (Ns j)])) 41⟩] u6 := M
              refine pl_val (want_no rfl) (some 66) rfl (.bool true) (fun w => Eq.trans (b := .ok (.value (.bool (decide ((cv .u64 (cv .u32 (bnv (tkV (rS Ds Ns s j) (rF Ds Ns s j) 4)))) = (bdv (tkV (rS Ds Ns s j) (rF Ds Ns s j) 4)))))) w) (by kernel_rfl) (by rw [decide_eq_true (num4_eq _ _)])) ?_
              refine pl_val (want_no rfl) (some 9) rfl (.bool true) (fun _ => by kernel_rfl) ?_
              refine pl_nil ?_
              refine au_block ?_
              refine au_then ?_
              refine wp_seq ?_
              refine rg_held M [⟨g1, .cells (av 3 (ls [.bool true, .string (tkS (rS Ds Ns s j) (rF Ds Ns s j) 4), .int .i64 (tkF (rS Ds Ns s j) (rF Ds Ns s j) 4)])) 59⟩, ⟨g2, .cells (av 2 (ls [.string (tkS (rS Ds Ns s j) (rF Ds Ns s j) 4), .int .i64 (tkF (rS Ds Ns s j) (rF Ds Ns s j) 4)])) 39⟩, ⟨g3, .cells (av 2 (ls [.int .i64 (Ds j), .int .i64 (Ns j)])) 41⟩] 27 rfl (by kernel_rfl) (by kernel_rfl) (fun _ _ d _ _ h => by cases d <;> exact h) ?_
              intro u7 M
              replace M : Mem ⟨w, []⟩ [⟨g1, .cells (av 3 (ls [.bool true, .string (tkS (rS Ds Ns s j) (rF Ds Ns s j) 4), .int .i64 (tkF (rS Ds Ns s j) (rF Ds Ns s j) 4)])) 59⟩, ⟨g2, .cells (av 2 (ls [.string (tkS (rS Ds Ns s j) (rF Ds Ns s j) 4), .int .i64 (tkF (rS Ds Ns s j) (rF Ds Ns s j) 4)])) 39⟩, ⟨g3, .cells (av 2 (ls [.int .i64 (Ds j), .int .i64 (Ns j)])) 41⟩] u7 := M
              refine hl_val M 0 rfl (by decide) (by kernel_rfl) (by kernel_rfl) (want_no rfl) (some 85) rfl (.bool true) (fun _ _ => by kernel_rfl) ?_
              refine hl_val M 1 rfl (by decide) (by kernel_rfl) (by kernel_rfl) (want_no rfl) (some 86) rfl (.bool false) (fun _ _ => by kernel_rfl) ?_
              refine hl_val M 2 rfl (by decide) (by kernel_rfl) (by kernel_rfl) (want_no rfl) (some 87) rfl (.bool false) (fun _ _ => by kernel_rfl) ?_
              refine hl_val M 3 rfl (by decide) (by kernel_rfl) (by kernel_rfl) (want_on 2 false rfl 87 rfl (by kernel_rfl)) (some 88) rfl (.pointer (some ⟨g1, 0, none⟩)) (fun _ _ => by kernel_rfl) ?_
              refine hl_val M 5 rfl (by decide) (by kernel_rfl) (by kernel_rfl) (want_on 2 false rfl 87 rfl (by kernel_rfl)) (some 90) rfl (.pointer (some ⟨g2, 0, none⟩)) (fun _ _ => by kernel_rfl) ?_
              refine hl_val M 6 rfl (by decide) (by kernel_rfl) (by kernel_rfl) (want_on 2 false rfl 87 rfl (by kernel_rfl)) (some 91) rfl (.pointer (some ⟨g2, 0, none⟩)) (fun _ _ => by kernel_rfl) ?_
              refine hl_val M 7 rfl (by decide) (by kernel_rfl) (by kernel_rfl) (want_on 2 false rfl 87 rfl (by kernel_rfl)) (some 92) rfl (.pointer (some ⟨g2, 0, none⟩)) (fun _ _ => by kernel_rfl) ?_
              refine hl_cell M 8 rfl (by decide) (by kernel_rfl) (by kernel_rfl) (want_on 2 false rfl 87 rfl (by kernel_rfl)) (some 93) rfl 9 _ rfl g2 0 (by kernel_rfl) (.string (tkS (rS Ds Ns s j) (rF Ds Ns s j) 4)) (fun _ => by kernel_rfl) (fun w M => M.cell 1 rfl (by decide) rfl) ?_
              refine hl_val M 9 rfl (by decide) (by kernel_rfl) (by kernel_rfl) (want_on 2 false rfl 87 rfl (by kernel_rfl)) (some 94) rfl (.int .i64 ((tkS (rS Ds Ns s j) (rF Ds Ns s j) 4).size : Int)) (fun _ _ => by kernel_rfl) ?_
              refine hl_one 4 (by decide) (by kernel_rfl) rfl ?_
              refine pl_call M (want_on 2 false rfl 87 rfl (by kernel_rfl)) (some 89) rfl 24 #[.pointer (some ⟨g1, 0, none⟩)] (.int .i64 ((tkS (rS Ds Ns s j) (rF Ds Ns s j) 4).size : Int)) (fun _ => by kernel_rfl) (fun w M => c_Left g1 (tkS (rS Ds Ns s j) (rF Ds Ns s j) 4) (tkF (rS Ds Ns s j) (rF Ds Ns s j) 4) w M.laid (M.get 0 rfl)) ?_
              intro u8 M
              refine pl_nil ?_
              refine au_then ?_
              refine ⟨M, ?_⟩
              refine hl_val M 10 rfl (by decide) (by kernel_rfl) (by kernel_rfl) (want_on 2 false rfl 87 rfl (by kernel_rfl)) (some 95) rfl (.bool false) (fun w _ => (fun w => Eq.trans (b := .ok (.value (.bool (!(decide (((tkS (rS Ds Ns s j) (rF Ds Ns s j) 4).size : Int) = ((tkS (rS Ds Ns s j) (rF Ds Ns s j) 4).size : Int)))))) w) (by kernel_rfl) (by rw [decide_eq_true rfl]; rfl)) w) ?_
              refine hl_val M 11 rfl (by decide) (by kernel_rfl) (by kernel_rfl) (want_no rfl) (some 96) rfl (.bool false) (fun _ _ => by kernel_rfl) ?_
              refine hl_val M 12 rfl (by decide) (by kernel_rfl) (by kernel_rfl) (want_no rfl) (some 97) rfl (.bool false) (fun _ _ => by kernel_rfl) ?_
              refine hl_val M 13 rfl (by decide) (by kernel_rfl) (by kernel_rfl) (want_on 12 false rfl 97 rfl (by kernel_rfl)) (some 98) rfl (.pointer (some ⟨g1, 0, none⟩)) (fun _ _ => by kernel_rfl) ?_
              refine hl_val M 15 rfl (by decide) (by kernel_rfl) (by kernel_rfl) (want_on 12 false rfl 97 rfl (by kernel_rfl)) (some 100) rfl (.pointer (some ⟨g2, 0, none⟩)) (fun _ _ => by kernel_rfl) ?_
              refine hl_val M 16 rfl (by decide) (by kernel_rfl) (by kernel_rfl) (want_on 12 false rfl 97 rfl (by kernel_rfl)) (some 101) rfl (.pointer (some ⟨g2, 0, none⟩)) (fun _ _ => by kernel_rfl) ?_
              refine hl_val M 17 rfl (by decide) (by kernel_rfl) (by kernel_rfl) (want_on 12 false rfl 97 rfl (by kernel_rfl)) (some 102) rfl (.pointer (some ⟨g2, 1, none⟩)) (fun _ _ => by kernel_rfl) ?_
              refine hl_cell M 18 rfl (by decide) (by kernel_rfl) (by kernel_rfl) (want_on 12 false rfl 97 rfl (by kernel_rfl)) (some 103) rfl 24 _ rfl g2 1 (by kernel_rfl) (.int .i64 (tkF (rS Ds Ns s j) (rF Ds Ns s j) 4)) (fun _ => by kernel_rfl) (fun w M => M.cell 1 rfl (by decide) rfl) ?_
              refine hl_one 14 (by decide) (by kernel_rfl) rfl ?_
              refine pl_call M (want_on 12 false rfl 97 rfl (by kernel_rfl)) (some 99) rfl 25 #[.pointer (some ⟨g1, 0, none⟩)] (.int .i64 (tkF (rS Ds Ns s j) (rF Ds Ns s j) 4)) (fun _ => by kernel_rfl) (fun w M => c_Fault g1 (tkS (rS Ds Ns s j) (rF Ds Ns s j) 4) (tkF (rS Ds Ns s j) (rF Ds Ns s j) 4) w M.laid (M.get 0 rfl)) ?_
              intro u9 M
              refine pl_nil ?_
              refine au_then ?_
              refine ⟨M, ?_⟩
              refine hl_val M 19 rfl (by decide) (by kernel_rfl) (by kernel_rfl) (want_on 12 false rfl 97 rfl (by kernel_rfl)) (some 104) rfl (.bool false) (fun w _ => (fun w => Eq.trans (b := .ok (.value (.bool (!(decide ((tkF (rS Ds Ns s j) (rF Ds Ns s j) 4) = (tkF (rS Ds Ns s j) (rF Ds Ns s j) 4)))))) w) (by kernel_rfl) (by rw [decide_eq_true rfl]; rfl)) w) ?_
              refine hl_val M 20 rfl (by decide) (by kernel_rfl) (by kernel_rfl) (want_no rfl) (some 105) rfl (.bool false) (fun _ _ => by kernel_rfl) ?_
              refine hl_val M 21 rfl (by decide) (by kernel_rfl) (by kernel_rfl) (want_no rfl) (some 106) rfl (.bool false) (fun _ _ => by kernel_rfl) ?_
              refine hl_val M 22 rfl (by decide) (by kernel_rfl) (by kernel_rfl) (want_on 21 false rfl 106 rfl (by kernel_rfl)) (some 107) rfl (.pointer (some ⟨g1, 0, none⟩)) (fun _ _ => by kernel_rfl) ?_
              refine hl_val M 24 rfl (by decide) (by kernel_rfl) (by kernel_rfl) (want_on 21 false rfl 106 rfl (by kernel_rfl)) (some 109) rfl (.pointer (some ⟨g2, 0, none⟩)) (fun _ _ => by kernel_rfl) ?_
              refine hl_one 23 (by decide) (by kernel_rfl) rfl ?_
              refine pl_call M (want_on 21 false rfl 106 rfl (by kernel_rfl)) (some 108) rfl 26 #[.pointer (some ⟨g1, 0, none⟩)] (.int .i64 (enF (tkS (rS Ds Ns s j) (rF Ds Ns s j) 4) (tkF (rS Ds Ns s j) (rF Ds Ns s j) 4))) (fun _ => by kernel_rfl) (fun w M => c_End g1 (tkS (rS Ds Ns s j) (rF Ds Ns s j) 4) (tkF (rS Ds Ns s j) (rF Ds Ns s j) 4) w M.laid (M.get 0 rfl)) ?_
              intro u10 M
              refine pl_nil ?_
              refine au_then ?_
              refine ⟨M, ?_⟩
              refine hl_one 25 (by decide) (by kernel_rfl) rfl ?_
              refine pl_call M (want_on 21 false rfl 106 rfl (by kernel_rfl)) (some 110) rfl 27 #[.pointer (some ⟨g2, 0, none⟩)] (.int .i64 (enF (tkS (rS Ds Ns s j) (rF Ds Ns s j) 4) (tkF (rS Ds Ns s j) (rF Ds Ns s j) 4))) (fun _ => by kernel_rfl) (fun w M => d_End g2 (tkS (rS Ds Ns s j) (rF Ds Ns s j) 4) (tkF (rS Ds Ns s j) (rF Ds Ns s j) 4) w M.laid (M.get 1 rfl)) ?_
              intro u11 M
              refine pl_nil ?_
              refine au_then ?_
              refine ⟨M, ?_⟩
              refine hl_val M 26 rfl (by decide) (by kernel_rfl) (by kernel_rfl) (want_on 21 false rfl 106 rfl (by kernel_rfl)) (some 111) rfl (.bool false) (fun w _ => (fun w => Eq.trans (b := .ok (.value (.bool (!(decide ((enF (tkS (rS Ds Ns s j) (rF Ds Ns s j) 4) (tkF (rS Ds Ns s j) (rF Ds Ns s j) 4)) = (enF (tkS (rS Ds Ns s j) (rF Ds Ns s j) 4) (tkF (rS Ds Ns s j) (rF Ds Ns s j) 4))))))) w) (by kernel_rfl) (by rw [decide_eq_true rfl]; rfl)) w) ?_
              refine hl_end (by kernel_rfl) (by kernel_rfl) rfl ?_
              refine pl_val (want_no rfl) (some 112) rfl (.bool false) (fun _ => by kernel_rfl) ?_
              refine pl_nil ?_
              refine au_then ?_
              refine au_then ?_
              refine wp_cond_false (by kernel_rfl) ?_
              refine wp_skip ?_
              refine au_block ?_
              refine au_then ?_
              refine rg_lit ?_
              refine pl_val (want_no rfl) (some 30) rfl (.int .i64 (j : Int)) (fun _ => by kernel_rfl) ?_
              refine pl_val (want_no rfl) (some 31) rfl (.int .i64 ((j + 1 : Nat) : Int)) (fun w => Eq.trans (b := .ok (.value (.int .i64 (IntKind.wrap .i64 ((j : Int) + 1)))) w) (by kernel_rfl) (by rw [wrap64 (by omega) (by omega)]; congr 3)) ?_
              refine pl_val (want_no rfl) (some 7) rfl (.int .i64 ((j + 1 : Nat) : Int)) (fun _ => by kernel_rfl) ?_
              refine pl_nil ?_
              refine au_then ?_
              have e0 : (rS Ds Ns s (j + 1)) = (tkS (rS Ds Ns s j) (rF Ds Ns s j) 4) := by simp only [rS_s, stS, if_neg c2, if_neg c3, if_pos c4]
              have e1 : (rF Ds Ns s (j + 1)) = (tkF (rS Ds Ns s j) (rF Ds Ns s j) 4) := by simp only [rF_s, stF, if_neg c2, if_neg c3, if_pos c4]
              exact ⟨fun k_ => ([v1 4, undef, undef, undef, .pointer (some ⟨g3, 0, none⟩), .bool true, undef, undef, undef, undef, undef, undef, undef, undef, undef, undef, undef, undef, undef, undef, undef, undef, .int .i64 (j : Int), .slice l len cap, .int .i64 (len : Int), .bool true, .int .i64 (j : Int), .int .i64 ((j + 1 : Nat) : Int), .slice l len cap, .int .i64 (j : Int), .pointer (some ⟨b, (o + j * 2), none⟩), .agg (av 2 (ls [.int .i64 (Ds j), .int .i64 (Ns j)])), .pointer (some ⟨g3, 0, none⟩), .int .i64 (Ds j), v1 38, v1 39, v1 40, v1 41, v1 42, .bool false, .bool false, v1 45, v1 46, v1 47, v1 48, v1 49, v1 50, .bool false, .bool false, v1 53, v1 54, v1 55, v1 56, v1 57, v1 58, .bool true, .bool true, .pointer (some ⟨g1, 0, none⟩), .int .u32 (cv .u32 (bnv (tkV (rS Ds Ns s j) (rF Ds Ns s j) 4))), .int .u64 (cv .u64 (cv .u32 (bnv (tkV (rS Ds Ns s j) (rF Ds Ns s j) 4)))), .pointer (some ⟨g2, 0, none⟩), .int .u64 (bdv (tkV (rS Ds Ns s j) (rF Ds Ns s j) 4)), .bool true, v1 67, v1 68, v1 69, v1 70, v1 71, v1 72, v1 73, v1 74, v1 75, v1 76, v1 77, v1 78, v1 79, v1 80, v1 81, v1 82, v1 83, v1 84, .bool true, .bool false, .bool false, .pointer (some ⟨g1, 0, none⟩), .int .i64 ((tkS (rS Ds Ns s j) (rF Ds Ns s j) 4).size : Int), .pointer (some ⟨g2, 0, none⟩), .pointer (some ⟨g2, 0, none⟩), .pointer (some ⟨g2, 0, none⟩), .string (tkS (rS Ds Ns s j) (rF Ds Ns s j) 4), .int .i64 ((tkS (rS Ds Ns s j) (rF Ds Ns s j) 4).size : Int), .bool false, .bool false, .bool false, .pointer (some ⟨g1, 0, none⟩), .int .i64 (tkF (rS Ds Ns s j) (rF Ds Ns s j) 4), .pointer (some ⟨g2, 0, none⟩), .pointer (some ⟨g2, 0, none⟩), .pointer (some ⟨g2, 1, none⟩), .int .i64 (tkF (rS Ds Ns s j) (rF Ds Ns s j) 4), .bool false, .bool false, .bool false, .pointer (some ⟨g1, 0, none⟩), .int .i64 (enF (tkS (rS Ds Ns s j) (rF Ds Ns s j) 4) (tkF (rS Ds Ns s j) (rF Ds Ns s j) 4)), .pointer (some ⟨g2, 0, none⟩), .int .i64 (enF (tkS (rS Ds Ns s j) (rF Ds Ns s j) 4) (tkF (rS Ds Ns s j) (rF Ds Ns s j) 4)), .bool false, .bool false] : List Value).getD (k_ - 4) undef, by kernel_rfl, (by rw [e0, e1]; exact M.drop (.cons_cons _ (.cons_cons _ (.cons _ (.slnil)))))⟩
            · skip
              refine pl_val (want_no rfl) (some 60) rfl (.bool false) (fun w => Eq.trans (b := .ok (.value (.bool (decide ((Ds j) = 2)))) w) (by kernel_rfl) (by rw [decide_eq_false (c4)])) ?_
              refine pl_val (want_no rfl) (some 59) rfl (.bool false) (fun _ => by kernel_rfl) ?_
              refine pl_nil ?_
              refine au_then ?_
              refine wp_cond_false (by kernel_rfl) ?_
              refine wp_seq ?_
              refine rg_lit ?_
              by_cases c5 : (Ds j) = 3
              · skip
                refine pl_val (want_no rfl) (some 68) rfl (.bool true) (fun w => Eq.trans (b := .ok (.value (.bool (decide ((Ds j) = 3)))) w) (by kernel_rfl) (by rw [decide_eq_true (c5)])) ?_
                refine pl_val (want_no rfl) (some 67) rfl (.bool true) (fun _ => by kernel_rfl) ?_
                refine pl_nil ?_
                refine au_then ?_
                refine wp_cond_true (by kernel_rfl) ?_
                refine rg_lit ?_
                refine pl_val (want_no rfl) (some 69) rfl (.pointer (some ⟨g1, 0, none⟩)) (fun _ => by kernel_rfl) ?_
                refine pl_callp M (want_no rfl) (some 70) rfl 19 #[.pointer (some ⟨g1, 0, none⟩)] (.int .u64 (bnv (tkV (rS Ds Ns s j) (rF Ds Ns s j) 8))) 0 g1 (.cells (av 3 (ls [.bool true, .string (rS Ds Ns s j), .int .i64 (rF Ds Ns s j)])) 59) (.cells (av 3 (ls [.bool true, .string (tkS (rS Ds Ns s j) (rF Ds Ns s j) 8), .int .i64 (tkF (rS Ds Ns s j) (rF Ds Ns s j) 8)])) 59) rfl (fun _ => by kernel_rfl) (fun w M => r_U64 g1 (rS Ds Ns s j) (rF Ds Ns s j) w M.laid (M.get 0 rfl)) ?_
                intro u5 M
                replace M : Mem ⟨w, []⟩ [⟨g1, .cells (av 3 (ls [.bool true, .string (tkS (rS Ds Ns s j) (rF Ds Ns s j) 8), .int .i64 (tkF (rS Ds Ns s j) (rF Ds Ns s j) 8)])) 59⟩, ⟨g2, .cells (av 2 (ls [.string (rS Ds Ns s j), .int .i64 (rF Ds Ns s j)])) 39⟩, ⟨g3, .cells (av 2 (ls [.int .i64 (Ds j), .int .i64 (Ns j)])) 41⟩] u5 := M
                refine pl_val (want_no rfl) (some 71) rfl (.pointer (some ⟨g2, 0, none⟩)) (fun _ => by kernel_rfl) ?_
                refine pl_callp M (want_no rfl) (some 72) rfl 16 #[.pointer (some ⟨g2, 0, none⟩), .int .i64 8] (.int .u64 (bdv (tkV (rS Ds Ns s j) (rF Ds Ns s j) 8))) 1 g2 (.cells (av 2 (ls [.string (rS Ds Ns s j), .int .i64 (rF Ds Ns s j)])) 39) (.cells (av 2 (ls [.string (tkS (rS Ds Ns s j) (rF Ds Ns s j) 8), .int .i64 (tkF (rS Ds Ns s j) (rF Ds Ns s j) 8)])) 39) rfl (fun _ => by kernel_rfl) (fun w M => d_Num g2 (rS Ds Ns s j) (rF Ds Ns s j) 8 (by decide) w M.laid (M.get 1 rfl)) ?_
                intro u6 M
                replace M : Mem ⟨w, []⟩ [⟨g1, .cells (av 3 (ls [.bool true, .string (tkS (rS Ds Ns s j) (rF Ds Ns s j) 8), .int .i64 (tkF (rS Ds Ns s j) (rF Ds Ns s j) 8)])) 59⟩, ⟨g2, .cells (av 2 (ls [.string (tkS (rS Ds Ns s j) (rF Ds Ns s j) 8), .int .i64 (tkF (rS Ds Ns s j) (rF Ds Ns s j) 8)])) 39⟩, ⟨g3, .cells (av 2 (ls [.int .i64 (Ds j), .int .i64 (Ns j)])) 41⟩] u6 := M
                refine pl_val (want_no rfl) (some 73) rfl (.bool true) (fun w => Eq.trans (b := .ok (.value (.bool (decide ((bnv (tkV (rS Ds Ns s j) (rF Ds Ns s j) 8)) = (bdv (tkV (rS Ds Ns s j) (rF Ds Ns s j) 8)))))) w) (by kernel_rfl) (by rw [decide_eq_true (bnv_bdv _)])) ?_
                refine pl_val (want_no rfl) (some 9) rfl (.bool true) (fun _ => by kernel_rfl) ?_
                refine pl_nil ?_
                refine au_block ?_
                refine au_then ?_
                refine wp_seq ?_
                refine rg_held M [⟨g1, .cells (av 3 (ls [.bool true, .string (tkS (rS Ds Ns s j) (rF Ds Ns s j) 8), .int .i64 (tkF (rS Ds Ns s j) (rF Ds Ns s j) 8)])) 59⟩, ⟨g2, .cells (av 2 (ls [.string (tkS (rS Ds Ns s j) (rF Ds Ns s j) 8), .int .i64 (tkF (rS Ds Ns s j) (rF Ds Ns s j) 8)])) 39⟩, ⟨g3, .cells (av 2 (ls [.int .i64 (Ds j), .int .i64 (Ns j)])) 41⟩] 27 rfl (by kernel_rfl) (by kernel_rfl) (fun _ _ d _ _ h => by cases d <;> exact h) ?_
                intro u7 M
                replace M : Mem ⟨w, []⟩ [⟨g1, .cells (av 3 (ls [.bool true, .string (tkS (rS Ds Ns s j) (rF Ds Ns s j) 8), .int .i64 (tkF (rS Ds Ns s j) (rF Ds Ns s j) 8)])) 59⟩, ⟨g2, .cells (av 2 (ls [.string (tkS (rS Ds Ns s j) (rF Ds Ns s j) 8), .int .i64 (tkF (rS Ds Ns s j) (rF Ds Ns s j) 8)])) 39⟩, ⟨g3, .cells (av 2 (ls [.int .i64 (Ds j), .int .i64 (Ns j)])) 41⟩] u7 := M
                refine hl_val M 0 rfl (by decide) (by kernel_rfl) (by kernel_rfl) (want_no rfl) (some 85) rfl (.bool true) (fun _ _ => by kernel_rfl) ?_
                refine hl_val M 1 rfl (by decide) (by kernel_rfl) (by kernel_rfl) (want_no rfl) (some 86) rfl (.bool false) (fun _ _ => by kernel_rfl) ?_
                refine hl_val M 2 rfl (by decide) (by kernel_rfl) (by kernel_rfl) (want_no rfl) (some 87) rfl (.bool false) (fun _ _ => by kernel_rfl) ?_
                refine hl_val M 3 rfl (by decide) (by kernel_rfl) (by kernel_rfl) (want_on 2 false rfl 87 rfl (by kernel_rfl)) (some 88) rfl (.pointer (some ⟨g1, 0, none⟩)) (fun _ _ => by kernel_rfl) ?_
                refine hl_val M 5 rfl (by decide) (by kernel_rfl) (by kernel_rfl) (want_on 2 false rfl 87 rfl (by kernel_rfl)) (some 90) rfl (.pointer (some ⟨g2, 0, none⟩)) (fun _ _ => by kernel_rfl) ?_
                refine hl_val M 6 rfl (by decide) (by kernel_rfl) (by kernel_rfl) (want_on 2 false rfl 87 rfl (by kernel_rfl)) (some 91) rfl (.pointer (some ⟨g2, 0, none⟩)) (fun _ _ => by kernel_rfl) ?_
                refine hl_val M 7 rfl (by decide) (by kernel_rfl) (by kernel_rfl) (want_on 2 false rfl 87 rfl (by kernel_rfl)) (some 92) rfl (.pointer (some ⟨g2, 0, none⟩)) (fun _ _ => by kernel_rfl) ?_
                refine hl_cell M 8 rfl (by decide) (by kernel_rfl) (by kernel_rfl) (want_on 2 false rfl 87 rfl (by kernel_rfl)) (some 93) rfl 9 _ rfl g2 0 (by kernel_rfl) (.string (tkS (rS Ds Ns s j) (rF Ds Ns s j) 8)) (fun _ => by kernel_rfl) (fun w M => M.cell 1 rfl (by decide) rfl) ?_
                refine hl_val M 9 rfl (by decide) (by kernel_rfl) (by kernel_rfl) (want_on 2 false rfl 87 rfl (by kernel_rfl)) (some 94) rfl (.int .i64 ((tkS (rS Ds Ns s j) (rF Ds Ns s j) 8).size : Int)) (fun _ _ => by kernel_rfl) ?_
                refine hl_one 4 (by decide) (by kernel_rfl) rfl ?_
                refine pl_call M (want_on 2 false rfl 87 rfl (by kernel_rfl)) (some 89) rfl 24 #[.pointer (some ⟨g1, 0, none⟩)] (.int .i64 ((tkS (rS Ds Ns s j) (rF Ds Ns s j) 8).size : Int)) (fun _ => by kernel_rfl) (fun w M => c_Left g1 (tkS (rS Ds Ns s j) (rF Ds Ns s j) 8) (tkF (rS Ds Ns s j) (rF Ds Ns s j) 8) w M.laid (M.get 0 rfl)) ?_
                intro u8 M
                refine pl_nil ?_
                refine au_then ?_
                refine ⟨M, ?_⟩
                refine hl_val M 10 rfl (by decide) (by kernel_rfl) (by kernel_rfl) (want_on 2 false rfl 87 rfl (by kernel_rfl)) (some 95) rfl (.bool false) (fun w _ => (fun w => Eq.trans (b := .ok (.value (.bool (!(decide (((tkS (rS Ds Ns s j) (rF Ds Ns s j) 8).size : Int) = ((tkS (rS Ds Ns s j) (rF Ds Ns s j) 8).size : Int)))))) w) (by kernel_rfl) (by rw [decide_eq_true rfl]; rfl)) w) ?_
                refine hl_val M 11 rfl (by decide) (by kernel_rfl) (by kernel_rfl) (want_no rfl) (some 96) rfl (.bool false) (fun _ _ => by kernel_rfl) ?_
                refine hl_val M 12 rfl (by decide) (by kernel_rfl) (by kernel_rfl) (want_no rfl) (some 97) rfl (.bool false) (fun _ _ => by kernel_rfl) ?_
                refine hl_val M 13 rfl (by decide) (by kernel_rfl) (by kernel_rfl) (want_on 12 false rfl 97 rfl (by kernel_rfl)) (some 98) rfl (.pointer (some ⟨g1, 0, none⟩)) (fun _ _ => by kernel_rfl) ?_
                refine hl_val M 15 rfl (by decide) (by kernel_rfl) (by kernel_rfl) (want_on 12 false rfl 97 rfl (by kernel_rfl)) (some 100) rfl (.pointer (some ⟨g2, 0, none⟩)) (fun _ _ => by kernel_rfl) ?_
                refine hl_val M 16 rfl (by decide) (by kernel_rfl) (by kernel_rfl) (want_on 12 false rfl 97 rfl (by kernel_rfl)) (some 101) rfl (.pointer (some ⟨g2, 0, none⟩)) (fun _ _ => by kernel_rfl) ?_
                refine hl_val M 17 rfl (by decide) (by kernel_rfl) (by kernel_rfl) (want_on 12 false rfl 97 rfl (by kernel_rfl)) (some 102) rfl (.pointer (some ⟨g2, 1, none⟩)) (fun _ _ => by kernel_rfl) ?_
                refine hl_cell M 18 rfl (by decide) (by kernel_rfl) (by kernel_rfl) (want_on 12 false rfl 97 rfl (by kernel_rfl)) (some 103) rfl 24 _ rfl g2 1 (by kernel_rfl) (.int .i64 (tkF (rS Ds Ns s j) (rF Ds Ns s j) 8)) (fun _ => by kernel_rfl) (fun w M => M.cell 1 rfl (by decide) rfl) ?_
                refine hl_one 14 (by decide) (by kernel_rfl) rfl ?_
                refine pl_call M (want_on 12 false rfl 97 rfl (by kernel_rfl)) (some 99) rfl 25 #[.pointer (some ⟨g1, 0, none⟩)] (.int .i64 (tkF (rS Ds Ns s j) (rF Ds Ns s j) 8)) (fun _ => by kernel_rfl) (fun w M => c_Fault g1 (tkS (rS Ds Ns s j) (rF Ds Ns s j) 8) (tkF (rS Ds Ns s j) (rF Ds Ns s j) 8) w M.laid (M.get 0 rfl)) ?_
                intro u9 M
                refine pl_nil ?_
                refine au_then ?_
                refine ⟨M, ?_⟩
                refine hl_val M 19 rfl (by decide) (by kernel_rfl) (by kernel_rfl) (want_on 12 false rfl 97 rfl (by kernel_rfl)) (some 104) rfl (.bool false) (fun w _ => (fun w => Eq.trans (b := .ok (.value (.bool (!(decide ((tkF (rS Ds Ns s j) (rF Ds Ns s j) 8) = (tkF (rS Ds Ns s j) (rF Ds Ns s j) 8)))))) w) (by kernel_rfl) (by rw [decide_eq_true rfl]; rfl)) w) ?_
                refine hl_val M 20 rfl (by decide) (by kernel_rfl) (by kernel_rfl) (want_no rfl) (some 105) rfl (.bool false) (fun _ _ => by kernel_rfl) ?_
                refine hl_val M 21 rfl (by decide) (by kernel_rfl) (by kernel_rfl) (want_no rfl) (some 106) rfl (.bool false) (fun _ _ => by kernel_rfl) ?_
                refine hl_val M 22 rfl (by decide) (by kernel_rfl) (by kernel_rfl) (want_on 21 false rfl 106 rfl (by kernel_rfl)) (some 107) rfl (.pointer (some ⟨g1, 0, none⟩)) (fun _ _ => by kernel_rfl) ?_
                refine hl_val M 24 rfl (by decide) (by kernel_rfl) (by kernel_rfl) (want_on 21 false rfl 106 rfl (by kernel_rfl)) (some 109) rfl (.pointer (some ⟨g2, 0, none⟩)) (fun _ _ => by kernel_rfl) ?_
                refine hl_one 23 (by decide) (by kernel_rfl) rfl ?_
                refine pl_call M (want_on 21 false rfl 106 rfl (by kernel_rfl)) (some 108) rfl 26 #[.pointer (some ⟨g1, 0, none⟩)] (.int .i64 (enF (tkS (rS Ds Ns s j) (rF Ds Ns s j) 8) (tkF (rS Ds Ns s j) (rF Ds Ns s j) 8))) (fun _ => by kernel_rfl) (fun w M => c_End g1 (tkS (rS Ds Ns s j) (rF Ds Ns s j) 8) (tkF (rS Ds Ns s j) (rF Ds Ns s j) 8) w M.laid (M.get 0 rfl)) ?_
                intro u10 M
                refine pl_nil ?_
                refine au_then ?_
                refine ⟨M, ?_⟩
                refine hl_one 25 (by decide) (by kernel_rfl) rfl ?_
                refine pl_call M (want_on 21 false rfl 106 rfl (by kernel_rfl)) (some 110) rfl 27 #[.pointer (some ⟨g2, 0, none⟩)] (.int .i64 (enF (tkS (rS Ds Ns s j) (rF Ds Ns s j) 8) (tkF (rS Ds Ns s j) (rF Ds Ns s j) 8))) (fun _ => by kernel_rfl) (fun w M => d_End g2 (tkS (rS Ds Ns s j) (rF Ds Ns s j) 8) (tkF (rS Ds Ns s j) (rF Ds Ns s j) 8) w M.laid (M.get 1 rfl)) ?_
                intro u11 M
                refine pl_nil ?_
                refine au_then ?_
                refine ⟨M, ?_⟩
                refine hl_val M 26 rfl (by decide) (by kernel_rfl) (by kernel_rfl) (want_on 21 false rfl 106 rfl (by kernel_rfl)) (some 111) rfl (.bool false) (fun w _ => (fun w => Eq.trans (b := .ok (.value (.bool (!(decide ((enF (tkS (rS Ds Ns s j) (rF Ds Ns s j) 8) (tkF (rS Ds Ns s j) (rF Ds Ns s j) 8)) = (enF (tkS (rS Ds Ns s j) (rF Ds Ns s j) 8) (tkF (rS Ds Ns s j) (rF Ds Ns s j) 8))))))) w) (by kernel_rfl) (by rw [decide_eq_true rfl]; rfl)) w) ?_
                refine hl_end (by kernel_rfl) (by kernel_rfl) rfl ?_
                refine pl_val (want_no rfl) (some 112) rfl (.bool false) (fun _ => by kernel_rfl) ?_
                refine pl_nil ?_
                refine au_then ?_
                refine au_then ?_
                refine wp_cond_false (by kernel_rfl) ?_
                refine wp_skip ?_
                refine au_block ?_
                refine au_then ?_
                refine rg_lit ?_
                refine pl_val (want_no rfl) (some 30) rfl (.int .i64 (j : Int)) (fun _ => by kernel_rfl) ?_
                refine pl_val (want_no rfl) (some 31) rfl (.int .i64 ((j + 1 : Nat) : Int)) (fun w => Eq.trans (b := .ok (.value (.int .i64 (IntKind.wrap .i64 ((j : Int) + 1)))) w) (by kernel_rfl) (by rw [wrap64 (by omega) (by omega)]; congr 3)) ?_
                refine pl_val (want_no rfl) (some 7) rfl (.int .i64 ((j + 1 : Nat) : Int)) (fun _ => by kernel_rfl) ?_
                refine pl_nil ?_
                refine au_then ?_
                have e0 : (rS Ds Ns s (j + 1)) = (tkS (rS Ds Ns s j) (rF Ds Ns s j) 8) := by simp only [rS_s, stS, if_neg c2, if_neg c3, if_neg c4, if_pos c5]
                have e1 : (rF Ds Ns s (j + 1)) = (tkF (rS Ds Ns s j) (rF Ds Ns s j) 8) := by simp only [rF_s, stF, if_neg c2, if_neg c3, if_neg c4, if_pos c5]
                exact ⟨fun k_ => ([v1 4, undef, undef, undef, .pointer (some ⟨g3, 0, none⟩), .bool true, undef, undef, undef, undef, undef, undef, undef, undef, undef, undef, undef, undef, undef, undef, undef, undef, .int .i64 (j : Int), .slice l len cap, .int .i64 (len : Int), .bool true, .int .i64 (j : Int), .int .i64 ((j + 1 : Nat) : Int), .slice l len cap, .int .i64 (j : Int), .pointer (some ⟨b, (o + j * 2), none⟩), .agg (av 2 (ls [.int .i64 (Ds j), .int .i64 (Ns j)])), .pointer (some ⟨g3, 0, none⟩), .int .i64 (Ds j), v1 38, v1 39, v1 40, v1 41, v1 42, .bool false, .bool false, v1 45, v1 46, v1 47, v1 48, v1 49, v1 50, .bool false, .bool false, v1 53, v1 54, v1 55, v1 56, v1 57, v1 58, .bool false, .bool false, v1 61, v1 62, v1 63, v1 64, v1 65, v1 66, .bool true, .bool true, .pointer (some ⟨g1, 0, none⟩), .int .u64 (bnv (tkV (rS Ds Ns s j) (rF Ds Ns s j) 8)), .pointer (some ⟨g2, 0, none⟩), .int .u64 (bdv (tkV (rS Ds Ns s j) (rF Ds Ns s j) 8)), .bool true, v1 74, v1 75, v1 76, v1 77, v1 78, v1 79, v1 80, v1 81, v1 82, v1 83, v1 84, .bool true, .bool false, .bool false, .pointer (some ⟨g1, 0, none⟩), .int .i64 ((tkS (rS Ds Ns s j) (rF Ds Ns s j) 8).size : Int), .pointer (some ⟨g2, 0, none⟩), .pointer (some ⟨g2, 0, none⟩), .pointer (some ⟨g2, 0, none⟩), .string (tkS (rS Ds Ns s j) (rF Ds Ns s j) 8), .int .i64 ((tkS (rS Ds Ns s j) (rF Ds Ns s j) 8).size : Int), .bool false, .bool false, .bool false, .pointer (some ⟨g1, 0, none⟩), .int .i64 (tkF (rS Ds Ns s j) (rF Ds Ns s j) 8), .pointer (some ⟨g2, 0, none⟩), .pointer (some ⟨g2, 0, none⟩), .pointer (some ⟨g2, 1, none⟩), .int .i64 (tkF (rS Ds Ns s j) (rF Ds Ns s j) 8), .bool false, .bool false, .bool false, .pointer (some ⟨g1, 0, none⟩), .int .i64 (enF (tkS (rS Ds Ns s j) (rF Ds Ns s j) 8) (tkF (rS Ds Ns s j) (rF Ds Ns s j) 8)), .pointer (some ⟨g2, 0, none⟩), .int .i64 (enF (tkS (rS Ds Ns s j) (rF Ds Ns s j) 8) (tkF (rS Ds Ns s j) (rF Ds Ns s j) 8)), .bool false, .bool false] : List Value).getD (k_ - 4) undef, by kernel_rfl, (by rw [e0, e1]; exact M.drop (.cons_cons _ (.cons_cons _ (.cons _ (.slnil)))))⟩
              · skip
                refine pl_val (want_no rfl) (some 68) rfl (.bool false) (fun w => Eq.trans (b := .ok (.value (.bool (decide ((Ds j) = 3)))) w) (by kernel_rfl) (by rw [decide_eq_false (c5)])) ?_
                refine pl_val (want_no rfl) (some 67) rfl (.bool false) (fun _ => by kernel_rfl) ?_
                refine pl_nil ?_
                refine au_then ?_
                refine wp_cond_false (by kernel_rfl) ?_
                refine wp_seq ?_
                refine rg_lit ?_
                by_cases c6 : (Ds j) = 4
                · skip
                  refine pl_val (want_no rfl) (some 75) rfl (.bool true) (fun w => Eq.trans (b := .ok (.value (.bool (decide ((Ds j) = 4)))) w) (by kernel_rfl) (by rw [decide_eq_true (c6)])) ?_
                  refine pl_val (want_no rfl) (some 74) rfl (.bool true) (fun _ => by kernel_rfl) ?_
                  refine pl_nil ?_
                  refine au_then ?_
                  refine wp_cond_true (by kernel_rfl) ?_
                  refine rg_held M [⟨g3, .cells (av 2 (ls [.int .i64 (Ds j), .int .i64 (Ns j)])) 41⟩] 9 rfl (by kernel_rfl) (by kernel_rfl) (fun _ _ d _ _ h => by cases d <;> exact h) ?_
                  intro u5 M
                  replace M : Mem ⟨w, []⟩ [⟨g1, .cells (av 3 (ls [.bool true, .string (rS Ds Ns s j), .int .i64 (rF Ds Ns s j)])) 59⟩, ⟨g2, .cells (av 2 (ls [.string (rS Ds Ns s j), .int .i64 (rF Ds Ns s j)])) 39⟩, ⟨g3, .cells (av 2 (ls [.int .i64 (Ds j), .int .i64 (Ns j)])) 41⟩] u5 := M
                  refine hl_val (M.drop (.cons _ (.cons _ (.cons_cons _ (.slnil))))) 0 rfl (by decide) (by kernel_rfl) (by kernel_rfl) (want_no rfl) (some 76) rfl (.pointer (some ⟨g1, 0, none⟩)) (fun _ _ => by kernel_rfl) ?_
                  refine hl_val (M.drop (.cons _ (.cons _ (.cons_cons _ (.slnil))))) 1 rfl (by decide) (by kernel_rfl) (by kernel_rfl) (want_no rfl) (some 77) rfl (.pointer (some ⟨g3, 1, none⟩)) (fun _ _ => by kernel_rfl) ?_
                  refine hl_cell (M.drop (.cons _ (.cons _ (.cons_cons _ (.slnil))))) 2 rfl (by decide) (by kernel_rfl) (by kernel_rfl) (want_no rfl) (some 78) rfl 3 _ rfl g3 1 (by kernel_rfl) (.int .i64 (Ns j)) (fun _ => by kernel_rfl) (fun w M => M.cell 0 rfl (by decide) rfl) ?_
                  refine hl_val (M.drop (.cons _ (.cons _ (.cons_cons _ (.slnil))))) 4 rfl (by decide) (by kernel_rfl) (by kernel_rfl) (want_no rfl) (some 80) rfl (.pointer (some ⟨g2, 0, none⟩)) (fun _ _ => by kernel_rfl) ?_
                  refine hl_val (M.drop (.cons _ (.cons _ (.cons_cons _ (.slnil))))) 5 rfl (by decide) (by kernel_rfl) (by kernel_rfl) (want_no rfl) (some 81) rfl (.pointer (some ⟨g3, 1, none⟩)) (fun _ _ => by kernel_rfl) ?_
                  refine hl_cell (M.drop (.cons _ (.cons _ (.cons_cons _ (.slnil))))) 6 rfl (by decide) (by kernel_rfl) (by kernel_rfl) (want_no rfl) (some 82) rfl 3 _ rfl g3 1 (by kernel_rfl) (.int .i64 (Ns j)) (fun _ => by kernel_rfl) (fun w M => M.cell 0 rfl (by decide) rfl) ?_
                  refine hl_one 3 (by decide) (by kernel_rfl) rfl ?_
                  refine pl_callp M (want_no rfl) (some 79) rfl 20 #[.pointer (some ⟨g1, 0, none⟩), .int .i64 (Ns j)] (.string (tkV (rS Ds Ns s j) (rF Ds Ns s j) (Ns j))) 0 g1 (.cells (av 3 (ls [.bool true, .string (rS Ds Ns s j), .int .i64 (rF Ds Ns s j)])) 59) (.cells (av 3 (ls [.bool true, .string (tkS (rS Ds Ns s j) (rF Ds Ns s j) (Ns j)), .int .i64 (tkF (rS Ds Ns s j) (rF Ds Ns s j) (Ns j))])) 59) rfl (fun _ => by kernel_rfl) (fun w M => c_Take g1 (rS Ds Ns s j) (rF Ds Ns s j) (Ns j) w M.laid (M.get 0 rfl)) ?_
                  intro u6 M
                  replace M : Mem ⟨w, []⟩ [⟨g1, .cells (av 3 (ls [.bool true, .string (tkS (rS Ds Ns s j) (rF Ds Ns s j) (Ns j)), .int .i64 (tkF (rS Ds Ns s j) (rF Ds Ns s j) (Ns j))])) 59⟩, ⟨g2, .cells (av 2 (ls [.string (rS Ds Ns s j), .int .i64 (rF Ds Ns s j)])) 39⟩, ⟨g3, .cells (av 2 (ls [.int .i64 (Ds j), .int .i64 (Ns j)])) 41⟩] u6 := M
                  refine pl_nil ?_
                  refine au_then ?_
                  refine ⟨(M.drop (.cons _ (.cons _ (.cons_cons _ (.slnil))))), ?_⟩
                  refine hl_one 7 (by decide) (by kernel_rfl) rfl ?_
                  refine pl_callp M (want_no rfl) (some 83) rfl 21 #[.pointer (some ⟨g2, 0, none⟩), .int .i64 (Ns j)] (.string (tkV (rS Ds Ns s j) (rF Ds Ns s j) (Ns j))) 1 g2 (.cells (av 2 (ls [.string (rS Ds Ns s j), .int .i64 (rF Ds Ns s j)])) 39) (.cells (av 2 (ls [.string (tkS (rS Ds Ns s j) (rF Ds Ns s j) (Ns j)), .int .i64 (tkF (rS Ds Ns s j) (rF Ds Ns s j) (Ns j))])) 39) rfl (fun _ => by kernel_rfl) (fun w M => d_Take g2 (rS Ds Ns s j) (rF Ds Ns s j) (Ns j) w M.laid (M.get 1 rfl)) ?_
                  intro u7 M
                  replace M : Mem ⟨w, []⟩ [⟨g1, .cells (av 3 (ls [.bool true, .string (tkS (rS Ds Ns s j) (rF Ds Ns s j) (Ns j)), .int .i64 (tkF (rS Ds Ns s j) (rF Ds Ns s j) (Ns j))])) 59⟩, ⟨g2, .cells (av 2 (ls [.string (tkS (rS Ds Ns s j) (rF Ds Ns s j) (Ns j)), .int .i64 (tkF (rS Ds Ns s j) (rF Ds Ns s j) (Ns j))])) 39⟩, ⟨g3, .cells (av 2 (ls [.int .i64 (Ds j), .int .i64 (Ns j)])) 41⟩] u7 := M
                  refine pl_nil ?_
                  refine au_then ?_
                  refine ⟨(M.drop (.cons _ (.cons _ (.cons_cons _ (.slnil))))), ?_⟩
                  refine hl_val (M.drop (.cons _ (.cons _ (.cons_cons _ (.slnil))))) 8 rfl (by decide) (by kernel_rfl) (by kernel_rfl) (want_no rfl) (some 84) rfl (.bool true) (fun w _ => (fun w => Eq.trans (b := .ok (.value (.bool ((tkV (rS Ds Ns s j) (rF Ds Ns s j) (Ns j)).toList == (tkV (rS Ds Ns s j) (rF Ds Ns s j) (Ns j)).toList))) w) (by kernel_rfl) (by rw [beq_self_eq_true])) w) ?_
                  refine hl_end (by kernel_rfl) (by kernel_rfl) rfl ?_
                  refine pl_val (want_no rfl) (some 9) rfl (.bool true) (fun _ => by kernel_rfl) ?_
                  refine pl_nil ?_
                  refine au_then ?_
                  refine au_block ?_
                  refine au_then ?_
                  refine wp_seq ?_
                  refine rg_held M [⟨g1, .cells (av 3 (ls [.bool true, .string (tkS (rS Ds Ns s j) (rF Ds Ns s j) (Ns j)), .int .i64 (tkF (rS Ds Ns s j) (rF Ds Ns s j) (Ns j))])) 59⟩, ⟨g2, .cells (av 2 (ls [.string (tkS (rS Ds Ns s j) (rF Ds Ns s j) (Ns j)), .int .i64 (tkF (rS Ds Ns s j) (rF Ds Ns s j) (Ns j))])) 39⟩, ⟨g3, .cells (av 2 (ls [.int .i64 (Ds j), .int .i64 (Ns j)])) 41⟩] 27 rfl (by kernel_rfl) (by kernel_rfl) (fun _ _ d _ _ h => by cases d <;> exact h) ?_
                  intro u8 M
                  replace M : Mem ⟨w, []⟩ [⟨g1, .cells (av 3 (ls [.bool true, .string (tkS (rS Ds Ns s j) (rF Ds Ns s j) (Ns j)), .int .i64 (tkF (rS Ds Ns s j) (rF Ds Ns s j) (Ns j))])) 59⟩, ⟨g2, .cells (av 2 (ls [.string (tkS (rS Ds Ns s j) (rF Ds Ns s j) (Ns j)), .int .i64 (tkF (rS Ds Ns s j) (rF Ds Ns s j) (Ns j))])) 39⟩, ⟨g3, .cells (av 2 (ls [.int .i64 (Ds j), .int .i64 (Ns j)])) 41⟩] u8 := M
                  refine hl_val M 0 rfl (by decide) (by kernel_rfl) (by kernel_rfl) (want_no rfl) (some 85) rfl (.bool true) (fun _ _ => by kernel_rfl) ?_
                  refine hl_val M 1 rfl (by decide) (by kernel_rfl) (by kernel_rfl) (want_no rfl) (some 86) rfl (.bool false) (fun _ _ => by kernel_rfl) ?_
                  refine hl_val M 2 rfl (by decide) (by kernel_rfl) (by kernel_rfl) (want_no rfl) (some 87) rfl (.bool false) (fun _ _ => by kernel_rfl) ?_
                  refine hl_val M 3 rfl (by decide) (by kernel_rfl) (by kernel_rfl) (want_on 2 false rfl 87 rfl (by kernel_rfl)) (some 88) rfl (.pointer (some ⟨g1, 0, none⟩)) (fun _ _ => by kernel_rfl) ?_
                  refine hl_val M 5 rfl (by decide) (by kernel_rfl) (by kernel_rfl) (want_on 2 false rfl 87 rfl (by kernel_rfl)) (some 90) rfl (.pointer (some ⟨g2, 0, none⟩)) (fun _ _ => by kernel_rfl) ?_
                  refine hl_val M 6 rfl (by decide) (by kernel_rfl) (by kernel_rfl) (want_on 2 false rfl 87 rfl (by kernel_rfl)) (some 91) rfl (.pointer (some ⟨g2, 0, none⟩)) (fun _ _ => by kernel_rfl) ?_
                  refine hl_val M 7 rfl (by decide) (by kernel_rfl) (by kernel_rfl) (want_on 2 false rfl 87 rfl (by kernel_rfl)) (some 92) rfl (.pointer (some ⟨g2, 0, none⟩)) (fun _ _ => by kernel_rfl) ?_
                  refine hl_cell M 8 rfl (by decide) (by kernel_rfl) (by kernel_rfl) (want_on 2 false rfl 87 rfl (by kernel_rfl)) (some 93) rfl 9 _ rfl g2 0 (by kernel_rfl) (.string (tkS (rS Ds Ns s j) (rF Ds Ns s j) (Ns j))) (fun _ => by kernel_rfl) (fun w M => M.cell 1 rfl (by decide) rfl) ?_
                  refine hl_val M 9 rfl (by decide) (by kernel_rfl) (by kernel_rfl) (want_on 2 false rfl 87 rfl (by kernel_rfl)) (some 94) rfl (.int .i64 ((tkS (rS Ds Ns s j) (rF Ds Ns s j) (Ns j)).size : Int)) (fun _ _ => by kernel_rfl) ?_
                  refine hl_one 4 (by decide) (by kernel_rfl) rfl ?_
                  refine pl_call M (want_on 2 false rfl 87 rfl (by kernel_rfl)) (some 89) rfl 24 #[.pointer (some ⟨g1, 0, none⟩)] (.int .i64 ((tkS (rS Ds Ns s j) (rF Ds Ns s j) (Ns j)).size : Int)) (fun _ => by kernel_rfl) (fun w M => c_Left g1 (tkS (rS Ds Ns s j) (rF Ds Ns s j) (Ns j)) (tkF (rS Ds Ns s j) (rF Ds Ns s j) (Ns j)) w M.laid (M.get 0 rfl)) ?_
                  intro u9 M
                  refine pl_nil ?_
                  refine au_then ?_
                  refine ⟨M, ?_⟩
                  refine hl_val M 10 rfl (by decide) (by kernel_rfl) (by kernel_rfl) (want_on 2 false rfl 87 rfl (by kernel_rfl)) (some 95) rfl (.bool false) (fun w _ => (fun w => Eq.trans (b := .ok (.value (.bool (!(decide (((tkS (rS Ds Ns s j) (rF Ds Ns s j) (Ns j)).size : Int) = ((tkS (rS Ds Ns s j) (rF Ds Ns s j) (Ns j)).size : Int)))))) w) (by kernel_rfl) (by rw [decide_eq_true rfl]; rfl)) w) ?_
                  refine hl_val M 11 rfl (by decide) (by kernel_rfl) (by kernel_rfl) (want_no rfl) (some 96) rfl (.bool false) (fun _ _ => by kernel_rfl) ?_
                  refine hl_val M 12 rfl (by decide) (by kernel_rfl) (by kernel_rfl) (want_no rfl) (some 97) rfl (.bool false) (fun _ _ => by kernel_rfl) ?_
                  refine hl_val M 13 rfl (by decide) (by kernel_rfl) (by kernel_rfl) (want_on 12 false rfl 97 rfl (by kernel_rfl)) (some 98) rfl (.pointer (some ⟨g1, 0, none⟩)) (fun _ _ => by kernel_rfl) ?_
                  refine hl_val M 15 rfl (by decide) (by kernel_rfl) (by kernel_rfl) (want_on 12 false rfl 97 rfl (by kernel_rfl)) (some 100) rfl (.pointer (some ⟨g2, 0, none⟩)) (fun _ _ => by kernel_rfl) ?_
                  refine hl_val M 16 rfl (by decide) (by kernel_rfl) (by kernel_rfl) (want_on 12 false rfl 97 rfl (by kernel_rfl)) (some 101) rfl (.pointer (some ⟨g2, 0, none⟩)) (fun _ _ => by kernel_rfl) ?_
                  refine hl_val M 17 rfl (by decide) (by kernel_rfl) (by kernel_rfl) (want_on 12 false rfl 97 rfl (by kernel_rfl)) (some 102) rfl (.pointer (some ⟨g2, 1, none⟩)) (fun _ _ => by kernel_rfl) ?_
                  refine hl_cell M 18 rfl (by decide) (by kernel_rfl) (by kernel_rfl) (want_on 12 false rfl 97 rfl (by kernel_rfl)) (some 103) rfl 24 _ rfl g2 1 (by kernel_rfl) (.int .i64 (tkF (rS Ds Ns s j) (rF Ds Ns s j) (Ns j))) (fun _ => by kernel_rfl) (fun w M => M.cell 1 rfl (by decide) rfl) ?_
                  refine hl_one 14 (by decide) (by kernel_rfl) rfl ?_
                  refine pl_call M (want_on 12 false rfl 97 rfl (by kernel_rfl)) (some 99) rfl 25 #[.pointer (some ⟨g1, 0, none⟩)] (.int .i64 (tkF (rS Ds Ns s j) (rF Ds Ns s j) (Ns j))) (fun _ => by kernel_rfl) (fun w M => c_Fault g1 (tkS (rS Ds Ns s j) (rF Ds Ns s j) (Ns j)) (tkF (rS Ds Ns s j) (rF Ds Ns s j) (Ns j)) w M.laid (M.get 0 rfl)) ?_
                  intro u10 M
                  refine pl_nil ?_
                  refine au_then ?_
                  refine ⟨M, ?_⟩
                  refine hl_val M 19 rfl (by decide) (by kernel_rfl) (by kernel_rfl) (want_on 12 false rfl 97 rfl (by kernel_rfl)) (some 104) rfl (.bool false) (fun w _ => (fun w => Eq.trans (b := .ok (.value (.bool (!(decide ((tkF (rS Ds Ns s j) (rF Ds Ns s j) (Ns j)) = (tkF (rS Ds Ns s j) (rF Ds Ns s j) (Ns j))))))) w) (by kernel_rfl) (by rw [decide_eq_true rfl]; rfl)) w) ?_
                  refine hl_val M 20 rfl (by decide) (by kernel_rfl) (by kernel_rfl) (want_no rfl) (some 105) rfl (.bool false) (fun _ _ => by kernel_rfl) ?_
                  refine hl_val M 21 rfl (by decide) (by kernel_rfl) (by kernel_rfl) (want_no rfl) (some 106) rfl (.bool false) (fun _ _ => by kernel_rfl) ?_
                  refine hl_val M 22 rfl (by decide) (by kernel_rfl) (by kernel_rfl) (want_on 21 false rfl 106 rfl (by kernel_rfl)) (some 107) rfl (.pointer (some ⟨g1, 0, none⟩)) (fun _ _ => by kernel_rfl) ?_
                  refine hl_val M 24 rfl (by decide) (by kernel_rfl) (by kernel_rfl) (want_on 21 false rfl 106 rfl (by kernel_rfl)) (some 109) rfl (.pointer (some ⟨g2, 0, none⟩)) (fun _ _ => by kernel_rfl) ?_
                  refine hl_one 23 (by decide) (by kernel_rfl) rfl ?_
                  refine pl_call M (want_on 21 false rfl 106 rfl (by kernel_rfl)) (some 108) rfl 26 #[.pointer (some ⟨g1, 0, none⟩)] (.int .i64 (enF (tkS (rS Ds Ns s j) (rF Ds Ns s j) (Ns j)) (tkF (rS Ds Ns s j) (rF Ds Ns s j) (Ns j)))) (fun _ => by kernel_rfl) (fun w M => c_End g1 (tkS (rS Ds Ns s j) (rF Ds Ns s j) (Ns j)) (tkF (rS Ds Ns s j) (rF Ds Ns s j) (Ns j)) w M.laid (M.get 0 rfl)) ?_
                  intro u11 M
                  refine pl_nil ?_
                  refine au_then ?_
                  refine ⟨M, ?_⟩
                  refine hl_one 25 (by decide) (by kernel_rfl) rfl ?_
                  refine pl_call M (want_on 21 false rfl 106 rfl (by kernel_rfl)) (some 110) rfl 27 #[.pointer (some ⟨g2, 0, none⟩)] (.int .i64 (enF (tkS (rS Ds Ns s j) (rF Ds Ns s j) (Ns j)) (tkF (rS Ds Ns s j) (rF Ds Ns s j) (Ns j)))) (fun _ => by kernel_rfl) (fun w M => d_End g2 (tkS (rS Ds Ns s j) (rF Ds Ns s j) (Ns j)) (tkF (rS Ds Ns s j) (rF Ds Ns s j) (Ns j)) w M.laid (M.get 1 rfl)) ?_
                  intro u12 M
                  refine pl_nil ?_
                  refine au_then ?_
                  refine ⟨M, ?_⟩
                  refine hl_val M 26 rfl (by decide) (by kernel_rfl) (by kernel_rfl) (want_on 21 false rfl 106 rfl (by kernel_rfl)) (some 111) rfl (.bool false) (fun w _ => (fun w => Eq.trans (b := .ok (.value (.bool (!(decide ((enF (tkS (rS Ds Ns s j) (rF Ds Ns s j) (Ns j)) (tkF (rS Ds Ns s j) (rF Ds Ns s j) (Ns j))) = (enF (tkS (rS Ds Ns s j) (rF Ds Ns s j) (Ns j)) (tkF (rS Ds Ns s j) (rF Ds Ns s j) (Ns j)))))))) w) (by kernel_rfl) (by rw [decide_eq_true rfl]; rfl)) w) ?_
                  refine hl_end (by kernel_rfl) (by kernel_rfl) rfl ?_
                  refine pl_val (want_no rfl) (some 112) rfl (.bool false) (fun _ => by kernel_rfl) ?_
                  refine pl_nil ?_
                  refine au_then ?_
                  refine au_then ?_
                  refine wp_cond_false (by kernel_rfl) ?_
                  refine wp_skip ?_
                  refine au_block ?_
                  refine au_then ?_
                  refine rg_lit ?_
                  refine pl_val (want_no rfl) (some 30) rfl (.int .i64 (j : Int)) (fun _ => by kernel_rfl) ?_
                  refine pl_val (want_no rfl) (some 31) rfl (.int .i64 ((j + 1 : Nat) : Int)) (fun w => Eq.trans (b := .ok (.value (.int .i64 (IntKind.wrap .i64 ((j : Int) + 1)))) w) (by kernel_rfl) (by rw [wrap64 (by omega) (by omega)]; congr 3)) ?_
                  refine pl_val (want_no rfl) (some 7) rfl (.int .i64 ((j + 1 : Nat) : Int)) (fun _ => by kernel_rfl) ?_
                  refine pl_nil ?_
                  refine au_then ?_
                  have e0 : (rS Ds Ns s (j + 1)) = (tkS (rS Ds Ns s j) (rF Ds Ns s j) (Ns j)) := by simp only [rS_s, stS, if_neg c2, if_neg c3, if_neg c4, if_neg c5, if_pos c6]
                  have e1 : (rF Ds Ns s (j + 1)) = (tkF (rS Ds Ns s j) (rF Ds Ns s j) (Ns j)) := by simp only [rF_s, stF, if_neg c2, if_neg c3, if_neg c4, if_neg c5, if_pos c6]
                  exact ⟨fun k_ => ([v1 4, undef, undef, undef, .pointer (some ⟨g3, 0, none⟩), .bool true, undef, undef, undef, undef, undef, undef, undef, undef, undef, undef, undef, undef, undef, undef, undef, undef, .int .i64 (j : Int), .slice l len cap, .int .i64 (len : Int), .bool true, .int .i64 (j : Int), .int .i64 ((j + 1 : Nat) : Int), .slice l len cap, .int .i64 (j : Int), .pointer (some ⟨b, (o + j * 2), none⟩), .agg (av 2 (ls [.int .i64 (Ds j), .int .i64 (Ns j)])), .pointer (some ⟨g3, 0, none⟩), .int .i64 (Ds j), v1 38, v1 39, v1 40, v1 41, v1 42, .bool false, .bool false, v1 45, v1 46, v1 47, v1 48, v1 49, v1 50, .bool false, .bool false, v1 53, v1 54, v1 55, v1 56, v1 57, v1 58, .bool false, .bool false, v1 61, v1 62, v1 63, v1 64, v1 65, v1 66, .bool false, .bool false, v1 69, v1 70, v1 71, v1 72, v1 73, .bool true, .bool true, .pointer (some ⟨g1, 0, none⟩), .pointer (some ⟨g3, 1, none⟩), .int .i64 (Ns j), .string (tkV (rS Ds Ns s j) (rF Ds Ns s j) (Ns j)), .pointer (some ⟨g2, 0, none⟩), .pointer (some ⟨g3, 1, none⟩), .int .i64 (Ns j), .string (tkV (rS Ds Ns s j) (rF Ds Ns s j) (Ns j)), .bool true, .bool true, .bool false, .bool false, .pointer (some ⟨g1, 0, none⟩), .int .i64 ((tkS (rS Ds Ns s j) (rF Ds Ns s j) (Ns j)).size : Int), .pointer (some ⟨g2, 0, none⟩), .pointer (some ⟨g2, 0, none⟩), .pointer (some ⟨g2, 0, none⟩), .string (tkS (rS Ds Ns s j) (rF Ds Ns s j) (Ns j)), .int .i64 ((tkS (rS Ds Ns s j) (rF Ds Ns s j) (Ns j)).size : Int), .bool false, .bool false, .bool false, .pointer (some ⟨g1, 0, none⟩), .int .i64 (tkF (rS Ds Ns s j) (rF Ds Ns s j) (Ns j)), .pointer (some ⟨g2, 0, none⟩), .pointer (some ⟨g2, 0, none⟩), .pointer (some ⟨g2, 1, none⟩), .int .i64 (tkF (rS Ds Ns s j) (rF Ds Ns s j) (Ns j)), .bool false, .bool false, .bool false, .pointer (some ⟨g1, 0, none⟩), .int .i64 (enF (tkS (rS Ds Ns s j) (rF Ds Ns s j) (Ns j)) (tkF (rS Ds Ns s j) (rF Ds Ns s j) (Ns j))), .pointer (some ⟨g2, 0, none⟩), .int .i64 (enF (tkS (rS Ds Ns s j) (rF Ds Ns s j) (Ns j)) (tkF (rS Ds Ns s j) (rF Ds Ns s j) (Ns j))), .bool false, .bool false] : List Value).getD (k_ - 4) undef, by kernel_rfl, (by rw [e0, e1]; exact M.drop (.cons_cons _ (.cons_cons _ (.cons _ (.slnil)))))⟩
                · skip
                  refine pl_val (want_no rfl) (some 75) rfl (.bool false) (fun w => Eq.trans (b := .ok (.value (.bool (decide ((Ds j) = 4)))) w) (by kernel_rfl) (by rw [decide_eq_false (c6)])) ?_
                  refine pl_val (want_no rfl) (some 74) rfl (.bool false) (fun _ => by kernel_rfl) ?_
                  refine pl_nil ?_
                  refine au_then ?_
                  refine wp_cond_false (by kernel_rfl) ?_
                  refine rg_lit ?_
                  refine pl_val (want_no rfl) (some 38) rfl (.pointer (some ⟨g1, 0, none⟩)) (fun _ => by kernel_rfl) ?_
                  refine pl_callp M (want_no rfl) (some 39) rfl 22 #[.pointer (some ⟨g1, 0, none⟩)] (.string (dxV (rS Ds Ns s j) (rF Ds Ns s j))) 0 g1 (.cells (av 3 (ls [.bool true, .string (rS Ds Ns s j), .int .i64 (rF Ds Ns s j)])) 59) (.cells (av 3 (ls [.bool true, .string (dxS (rS Ds Ns s j) (rF Ds Ns s j)), .int .i64 (dxF (rS Ds Ns s j) (rF Ds Ns s j))])) 59) rfl (fun _ => by kernel_rfl) (fun w M => c_TextG g1 (rS Ds Ns s j) (rF Ds Ns s j) w M.laid (M.get 0 rfl)) ?_
                  intro u5 M
                  replace M : Mem ⟨w, []⟩ [⟨g1, .cells (av 3 (ls [.bool true, .string (dxS (rS Ds Ns s j) (rF Ds Ns s j)), .int .i64 (dxF (rS Ds Ns s j) (rF Ds Ns s j))])) 59⟩, ⟨g2, .cells (av 2 (ls [.string (rS Ds Ns s j), .int .i64 (rF Ds Ns s j)])) 39⟩, ⟨g3, .cells (av 2 (ls [.int .i64 (Ds j), .int .i64 (Ns j)])) 41⟩] u5 := M
                  refine pl_val (want_no rfl) (some 40) rfl (.pointer (some ⟨g2, 0, none⟩)) (fun _ => by kernel_rfl) ?_
                  refine pl_callp M (want_no rfl) (some 41) rfl 23 #[.pointer (some ⟨g2, 0, none⟩)] (.string (dxV (rS Ds Ns s j) (rF Ds Ns s j))) 1 g2 (.cells (av 2 (ls [.string (rS Ds Ns s j), .int .i64 (rF Ds Ns s j)])) 39) (.cells (av 2 (ls [.string (dxS (rS Ds Ns s j) (rF Ds Ns s j)), .int .i64 (dxF (rS Ds Ns s j) (rF Ds Ns s j))])) 39) rfl (fun _ => by kernel_rfl) (fun w M => d_Text g2 (rS Ds Ns s j) (rF Ds Ns s j) w M.laid (M.get 1 rfl)) ?_
                  intro u6 M
                  replace M : Mem ⟨w, []⟩ [⟨g1, .cells (av 3 (ls [.bool true, .string (dxS (rS Ds Ns s j) (rF Ds Ns s j)), .int .i64 (dxF (rS Ds Ns s j) (rF Ds Ns s j))])) 59⟩, ⟨g2, .cells (av 2 (ls [.string (dxS (rS Ds Ns s j) (rF Ds Ns s j)), .int .i64 (dxF (rS Ds Ns s j) (rF Ds Ns s j))])) 39⟩, ⟨g3, .cells (av 2 (ls [.int .i64 (Ds j), .int .i64 (Ns j)])) 41⟩] u6 := M
                  refine pl_val (want_no rfl) (some 42) rfl (.bool true) (fun w => Eq.trans (b := .ok (.value (.bool ((dxV (rS Ds Ns s j) (rF Ds Ns s j)).toList == (dxV (rS Ds Ns s j) (rF Ds Ns s j)).toList))) w) (by kernel_rfl) (by rw [beq_self_eq_true])) ?_
                  refine pl_val (want_no rfl) (some 9) rfl (.bool true) (fun _ => by kernel_rfl) ?_
                  refine pl_nil ?_
                  refine au_block ?_
                  refine au_then ?_
                  refine wp_seq ?_
                  refine rg_held M [⟨g1, .cells (av 3 (ls [.bool true, .string (dxS (rS Ds Ns s j) (rF Ds Ns s j)), .int .i64 (dxF (rS Ds Ns s j) (rF Ds Ns s j))])) 59⟩, ⟨g2, .cells (av 2 (ls [.string (dxS (rS Ds Ns s j) (rF Ds Ns s j)), .int .i64 (dxF (rS Ds Ns s j) (rF Ds Ns s j))])) 39⟩, ⟨g3, .cells (av 2 (ls [.int .i64 (Ds j), .int .i64 (Ns j)])) 41⟩] 27 rfl (by kernel_rfl) (by kernel_rfl) (fun _ _ d _ _ h => by cases d <;> exact h) ?_
                  intro u7 M
                  replace M : Mem ⟨w, []⟩ [⟨g1, .cells (av 3 (ls [.bool true, .string (dxS (rS Ds Ns s j) (rF Ds Ns s j)), .int .i64 (dxF (rS Ds Ns s j) (rF Ds Ns s j))])) 59⟩, ⟨g2, .cells (av 2 (ls [.string (dxS (rS Ds Ns s j) (rF Ds Ns s j)), .int .i64 (dxF (rS Ds Ns s j) (rF Ds Ns s j))])) 39⟩, ⟨g3, .cells (av 2 (ls [.int .i64 (Ds j), .int .i64 (Ns j)])) 41⟩] u7 := M
                  refine hl_val M 0 rfl (by decide) (by kernel_rfl) (by kernel_rfl) (want_no rfl) (some 85) rfl (.bool true) (fun _ _ => by kernel_rfl) ?_
                  refine hl_val M 1 rfl (by decide) (by kernel_rfl) (by kernel_rfl) (want_no rfl) (some 86) rfl (.bool false) (fun _ _ => by kernel_rfl) ?_
                  refine hl_val M 2 rfl (by decide) (by kernel_rfl) (by kernel_rfl) (want_no rfl) (some 87) rfl (.bool false) (fun _ _ => by kernel_rfl) ?_
                  refine hl_val M 3 rfl (by decide) (by kernel_rfl) (by kernel_rfl) (want_on 2 false rfl 87 rfl (by kernel_rfl)) (some 88) rfl (.pointer (some ⟨g1, 0, none⟩)) (fun _ _ => by kernel_rfl) ?_
                  refine hl_val M 5 rfl (by decide) (by kernel_rfl) (by kernel_rfl) (want_on 2 false rfl 87 rfl (by kernel_rfl)) (some 90) rfl (.pointer (some ⟨g2, 0, none⟩)) (fun _ _ => by kernel_rfl) ?_
                  refine hl_val M 6 rfl (by decide) (by kernel_rfl) (by kernel_rfl) (want_on 2 false rfl 87 rfl (by kernel_rfl)) (some 91) rfl (.pointer (some ⟨g2, 0, none⟩)) (fun _ _ => by kernel_rfl) ?_
                  refine hl_val M 7 rfl (by decide) (by kernel_rfl) (by kernel_rfl) (want_on 2 false rfl 87 rfl (by kernel_rfl)) (some 92) rfl (.pointer (some ⟨g2, 0, none⟩)) (fun _ _ => by kernel_rfl) ?_
                  refine hl_cell M 8 rfl (by decide) (by kernel_rfl) (by kernel_rfl) (want_on 2 false rfl 87 rfl (by kernel_rfl)) (some 93) rfl 9 _ rfl g2 0 (by kernel_rfl) (.string (dxS (rS Ds Ns s j) (rF Ds Ns s j))) (fun _ => by kernel_rfl) (fun w M => M.cell 1 rfl (by decide) rfl) ?_
                  refine hl_val M 9 rfl (by decide) (by kernel_rfl) (by kernel_rfl) (want_on 2 false rfl 87 rfl (by kernel_rfl)) (some 94) rfl (.int .i64 ((dxS (rS Ds Ns s j) (rF Ds Ns s j)).size : Int)) (fun _ _ => by kernel_rfl) ?_
                  refine hl_one 4 (by decide) (by kernel_rfl) rfl ?_
                  refine pl_call M (want_on 2 false rfl 87 rfl (by kernel_rfl)) (some 89) rfl 24 #[.pointer (some ⟨g1, 0, none⟩)] (.int .i64 ((dxS (rS Ds Ns s j) (rF Ds Ns s j)).size : Int)) (fun _ => by kernel_rfl) (fun w M => c_Left g1 (dxS (rS Ds Ns s j) (rF Ds Ns s j)) (dxF (rS Ds Ns s j) (rF Ds Ns s j)) w M.laid (M.get 0 rfl)) ?_
                  intro u8 M
                  refine pl_nil ?_
                  refine au_then ?_
                  refine ⟨M, ?_⟩
                  refine hl_val M 10 rfl (by decide) (by kernel_rfl) (by kernel_rfl) (want_on 2 false rfl 87 rfl (by kernel_rfl)) (some 95) rfl (.bool false) (fun w _ => (fun w => Eq.trans (b := .ok (.value (.bool (!(decide (((dxS (rS Ds Ns s j) (rF Ds Ns s j)).size : Int) = ((dxS (rS Ds Ns s j) (rF Ds Ns s j)).size : Int)))))) w) (by kernel_rfl) (by rw [decide_eq_true rfl]; rfl)) w) ?_
                  refine hl_val M 11 rfl (by decide) (by kernel_rfl) (by kernel_rfl) (want_no rfl) (some 96) rfl (.bool false) (fun _ _ => by kernel_rfl) ?_
                  refine hl_val M 12 rfl (by decide) (by kernel_rfl) (by kernel_rfl) (want_no rfl) (some 97) rfl (.bool false) (fun _ _ => by kernel_rfl) ?_
                  refine hl_val M 13 rfl (by decide) (by kernel_rfl) (by kernel_rfl) (want_on 12 false rfl 97 rfl (by kernel_rfl)) (some 98) rfl (.pointer (some ⟨g1, 0, none⟩)) (fun _ _ => by kernel_rfl) ?_
                  refine hl_val M 15 rfl (by decide) (by kernel_rfl) (by kernel_rfl) (want_on 12 false rfl 97 rfl (by kernel_rfl)) (some 100) rfl (.pointer (some ⟨g2, 0, none⟩)) (fun _ _ => by kernel_rfl) ?_
                  refine hl_val M 16 rfl (by decide) (by kernel_rfl) (by kernel_rfl) (want_on 12 false rfl 97 rfl (by kernel_rfl)) (some 101) rfl (.pointer (some ⟨g2, 0, none⟩)) (fun _ _ => by kernel_rfl) ?_
                  refine hl_val M 17 rfl (by decide) (by kernel_rfl) (by kernel_rfl) (want_on 12 false rfl 97 rfl (by kernel_rfl)) (some 102) rfl (.pointer (some ⟨g2, 1, none⟩)) (fun _ _ => by kernel_rfl) ?_
                  refine hl_cell M 18 rfl (by decide) (by kernel_rfl) (by kernel_rfl) (want_on 12 false rfl 97 rfl (by kernel_rfl)) (some 103) rfl 24 _ rfl g2 1 (by kernel_rfl) (.int .i64 (dxF (rS Ds Ns s j) (rF Ds Ns s j))) (fun _ => by kernel_rfl) (fun w M => M.cell 1 rfl (by decide) rfl) ?_
                  refine hl_one 14 (by decide) (by kernel_rfl) rfl ?_
                  refine pl_call M (want_on 12 false rfl 97 rfl (by kernel_rfl)) (some 99) rfl 25 #[.pointer (some ⟨g1, 0, none⟩)] (.int .i64 (dxF (rS Ds Ns s j) (rF Ds Ns s j))) (fun _ => by kernel_rfl) (fun w M => c_Fault g1 (dxS (rS Ds Ns s j) (rF Ds Ns s j)) (dxF (rS Ds Ns s j) (rF Ds Ns s j)) w M.laid (M.get 0 rfl)) ?_
                  intro u9 M
                  refine pl_nil ?_
                  refine au_then ?_
                  refine ⟨M, ?_⟩
                  refine hl_val M 19 rfl (by decide) (by kernel_rfl) (by kernel_rfl) (want_on 12 false rfl 97 rfl (by kernel_rfl)) (some 104) rfl (.bool false) (fun w _ => (fun w => Eq.trans (b := .ok (.value (.bool (!(decide ((dxF (rS Ds Ns s j) (rF Ds Ns s j)) = (dxF (rS Ds Ns s j) (rF Ds Ns s j))))))) w) (by kernel_rfl) (by rw [decide_eq_true rfl]; rfl)) w) ?_
                  refine hl_val M 20 rfl (by decide) (by kernel_rfl) (by kernel_rfl) (want_no rfl) (some 105) rfl (.bool false) (fun _ _ => by kernel_rfl) ?_
                  refine hl_val M 21 rfl (by decide) (by kernel_rfl) (by kernel_rfl) (want_no rfl) (some 106) rfl (.bool false) (fun _ _ => by kernel_rfl) ?_
                  refine hl_val M 22 rfl (by decide) (by kernel_rfl) (by kernel_rfl) (want_on 21 false rfl 106 rfl (by kernel_rfl)) (some 107) rfl (.pointer (some ⟨g1, 0, none⟩)) (fun _ _ => by kernel_rfl) ?_
                  refine hl_val M 24 rfl (by decide) (by kernel_rfl) (by kernel_rfl) (want_on 21 false rfl 106 rfl (by kernel_rfl)) (some 109) rfl (.pointer (some ⟨g2, 0, none⟩)) (fun _ _ => by kernel_rfl) ?_
                  refine hl_one 23 (by decide) (by kernel_rfl) rfl ?_
                  refine pl_call M (want_on 21 false rfl 106 rfl (by kernel_rfl)) (some 108) rfl 26 #[.pointer (some ⟨g1, 0, none⟩)] (.int .i64 (enF (dxS (rS Ds Ns s j) (rF Ds Ns s j)) (dxF (rS Ds Ns s j) (rF Ds Ns s j)))) (fun _ => by kernel_rfl) (fun w M => c_End g1 (dxS (rS Ds Ns s j) (rF Ds Ns s j)) (dxF (rS Ds Ns s j) (rF Ds Ns s j)) w M.laid (M.get 0 rfl)) ?_
                  intro u10 M
                  refine pl_nil ?_
                  refine au_then ?_
                  refine ⟨M, ?_⟩
                  refine hl_one 25 (by decide) (by kernel_rfl) rfl ?_
                  refine pl_call M (want_on 21 false rfl 106 rfl (by kernel_rfl)) (some 110) rfl 27 #[.pointer (some ⟨g2, 0, none⟩)] (.int .i64 (enF (dxS (rS Ds Ns s j) (rF Ds Ns s j)) (dxF (rS Ds Ns s j) (rF Ds Ns s j)))) (fun _ => by kernel_rfl) (fun w M => d_End g2 (dxS (rS Ds Ns s j) (rF Ds Ns s j)) (dxF (rS Ds Ns s j) (rF Ds Ns s j)) w M.laid (M.get 1 rfl)) ?_
                  intro u11 M
                  refine pl_nil ?_
                  refine au_then ?_
                  refine ⟨M, ?_⟩
                  refine hl_val M 26 rfl (by decide) (by kernel_rfl) (by kernel_rfl) (want_on 21 false rfl 106 rfl (by kernel_rfl)) (some 111) rfl (.bool false) (fun w _ => (fun w => Eq.trans (b := .ok (.value (.bool (!(decide ((enF (dxS (rS Ds Ns s j) (rF Ds Ns s j)) (dxF (rS Ds Ns s j) (rF Ds Ns s j))) = (enF (dxS (rS Ds Ns s j) (rF Ds Ns s j)) (dxF (rS Ds Ns s j) (rF Ds Ns s j)))))))) w) (by kernel_rfl) (by rw [decide_eq_true rfl]; rfl)) w) ?_
                  refine hl_end (by kernel_rfl) (by kernel_rfl) rfl ?_
                  refine pl_val (want_no rfl) (some 112) rfl (.bool false) (fun _ => by kernel_rfl) ?_
                  refine pl_nil ?_
                  refine au_then ?_
                  refine au_then ?_
                  refine wp_cond_false (by kernel_rfl) ?_
                  refine wp_skip ?_
                  refine au_block ?_
                  refine au_then ?_
                  refine rg_lit ?_
                  refine pl_val (want_no rfl) (some 30) rfl (.int .i64 (j : Int)) (fun _ => by kernel_rfl) ?_
                  refine pl_val (want_no rfl) (some 31) rfl (.int .i64 ((j + 1 : Nat) : Int)) (fun w => Eq.trans (b := .ok (.value (.int .i64 (IntKind.wrap .i64 ((j : Int) + 1)))) w) (by kernel_rfl) (by rw [wrap64 (by omega) (by omega)]; congr 3)) ?_
                  refine pl_val (want_no rfl) (some 7) rfl (.int .i64 ((j + 1 : Nat) : Int)) (fun _ => by kernel_rfl) ?_
                  refine pl_nil ?_
                  refine au_then ?_
                  have e0 : (rS Ds Ns s (j + 1)) = (dxS (rS Ds Ns s j) (rF Ds Ns s j)) := by simp only [rS_s, stS, if_neg c2, if_neg c3, if_neg c4, if_neg c5, if_neg c6]
                  have e1 : (rF Ds Ns s (j + 1)) = (dxF (rS Ds Ns s j) (rF Ds Ns s j)) := by simp only [rF_s, stF, if_neg c2, if_neg c3, if_neg c4, if_neg c5, if_neg c6]
                  exact ⟨fun k_ => ([v1 4, undef, undef, undef, .pointer (some ⟨g3, 0, none⟩), .bool true, undef, undef, undef, undef, undef, undef, undef, undef, undef, undef, undef, undef, undef, undef, undef, undef, .int .i64 (j : Int), .slice l len cap, .int .i64 (len : Int), .bool true, .int .i64 (j : Int), .int .i64 ((j + 1 : Nat) : Int), .slice l len cap, .int .i64 (j : Int), .pointer (some ⟨b, (o + j * 2), none⟩), .agg (av 2 (ls [.int .i64 (Ds j), .int .i64 (Ns j)])), .pointer (some ⟨g3, 0, none⟩), .int .i64 (Ds j), .pointer (some ⟨g1, 0, none⟩), .string (dxV (rS Ds Ns s j) (rF Ds Ns s j)), .pointer (some ⟨g2, 0, none⟩), .string (dxV (rS Ds Ns s j) (rF Ds Ns s j)), .bool true, .bool false, .bool false, v1 45, v1 46, v1 47, v1 48, v1 49, v1 50, .bool false, .bool false, v1 53, v1 54, v1 55, v1 56, v1 57, v1 58, .bool false, .bool false, v1 61, v1 62, v1 63, v1 64, v1 65, v1 66, .bool false, .bool false, v1 69, v1 70, v1 71, v1 72, v1 73, .bool false, .bool false, v1 76, v1 77, v1 78, v1 79, v1 80, v1 81, v1 82, v1 83, v1 84, .bool true, .bool false, .bool false, .pointer (some ⟨g1, 0, none⟩), .int .i64 ((dxS (rS Ds Ns s j) (rF Ds Ns s j)).size : Int), .pointer (some ⟨g2, 0, none⟩), .pointer (some ⟨g2, 0, none⟩), .pointer (some ⟨g2, 0, none⟩), .string (dxS (rS Ds Ns s j) (rF Ds Ns s j)), .int .i64 ((dxS (rS Ds Ns s j) (rF Ds Ns s j)).size : Int), .bool false, .bool false, .bool false, .pointer (some ⟨g1, 0, none⟩), .int .i64 (dxF (rS Ds Ns s j) (rF Ds Ns s j)), .pointer (some ⟨g2, 0, none⟩), .pointer (some ⟨g2, 0, none⟩), .pointer (some ⟨g2, 1, none⟩), .int .i64 (dxF (rS Ds Ns s j) (rF Ds Ns s j)), .bool false, .bool false, .bool false, .pointer (some ⟨g1, 0, none⟩), .int .i64 (enF (dxS (rS Ds Ns s j) (rF Ds Ns s j)) (dxF (rS Ds Ns s j) (rF Ds Ns s j))), .pointer (some ⟨g2, 0, none⟩), .int .i64 (enF (dxS (rS Ds Ns s j) (rF Ds Ns s j)) (dxF (rS Ds Ns s j) (rF Ds Ns s j))), .bool false, .bool false] : List Value).getD (k_ - 4) undef, by kernel_rfl, (by rw [e0, e1]; exact M.drop (.cons_cons _ (.cons_cons _ (.cons _ (.slnil)))))⟩
      · intro a u0 hI
        obtain ⟨v1, rfl, M⟩ := hI
        refine wp_seq ?_
        refine wp_seq ?_
        refine rg_lit ?_
        refine pl_val (want_no rfl) (some 26) rfl (.int .i64 (len : Int)) (fun _ => by kernel_rfl) ?_
        refine pl_val (want_no rfl) (some 27) rfl (.slice l len cap) (fun _ => by kernel_rfl) ?_
        refine pl_val (want_no rfl) (some 28) rfl (.int .i64 (len : Int)) (fun _ => by kernel_rfl) ?_
        refine pl_val (want_no rfl) (some 29) rfl (.bool false) (fun w => Eq.trans (b := .ok (.value (.bool (decide ((len : Int) < (len : Int))))) w) (by kernel_rfl) (by rw [decide_eq_false (by omega)])) ?_
        refine pl_nil ?_
        refine au_then ?_
        refine wp_cond_false (by kernel_rfl) ?_
        refine wp_exit ?_
        refine au_then_exit ?_
        refine au_then_exit ?_
        refine au_block_exit ?_
        refine au_then ?_
        refine wp_seq ?_
        refine rg_lit ?_
        refine pl_call M (want_no rfl) (some 113) rfl 7 #[] (.bool true) (fun _ => by kernel_rfl) (fun w M => c_works w M.laid) ?_
        intro u3 M
        refine pl_val (want_no rfl) (some 4) rfl (.bool true) (fun _ => by kernel_rfl) ?_
        refine pl_nil ?_
        refine au_then ?_
        refine wp_ret ?_
        exact bodyPost_ret (v := .bool true) (results_tmp1 Try.results4 _ _ _ (by kernel_rfl)) (by kernel_rfl) ⟨rfl, below_grown M.old⟩


end Go.Proofs.Ytoiodkhmkkhjcaa
