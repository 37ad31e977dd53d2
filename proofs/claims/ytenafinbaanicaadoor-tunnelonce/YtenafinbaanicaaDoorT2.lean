/- What one end keeps: sealing, opening, wiping. -/
import Derived.Test.YtenafinbaanicaaDoorT1
namespace Go.Proofs.YtenafinbaanicaaDoor
open Go.RowKit
set_option maxRecDepth 100000

theorem wrapU_suc (a : Nat) (h : a + 1 < 18446744073709551616) : IntKind.wrap .u64 ((a : Int) + 1) = ((a + 1 : Nat) : Int) := by
  rw [IntKind.wrap_u64]
  omega
/-- Why a text is not sealed; its number, what it is then, and how many were sealed then. -/
def slZ (sd : ByteArray) (nx : Nat) (s : ByteArray) : Int := sf sd (nS (nx : Int)) ⟨#[]⟩ s 0
def slN (sd : ByteArray) (nx : Nat) (s : ByteArray) : Nat := if slZ sd nx s = 0 then nx else 0
def slC (sd : ByteArray) (nx : Nat) (s : ByteArray) : ByteArray := if slZ sd nx s = 0 then sealS sd (nS (nx : Int)) ⟨#[]⟩ s else ⟨#[]⟩
def slX (sd : ByteArray) (nx : Nat) (s : ByteArray) : Nat := if slZ sd nx s = 0 then nx + 1 else nx
/-- Why a text is not opened; what it is. -/
def opZ (rv : ByteArray) (i : Nat) (c : ByteArray) : Int := if sf rv (nS (i : Int)) ⟨#[]⟩ c 16 = 0 then (if tgX rv (nS (i : Int)) ⟨#[]⟩ c = c.extract (c.size - 16) c.size then 0 else 100) else sf rv (nS (i : Int)) ⟨#[]⟩ c 16
def opC (rv : ByteArray) (i : Nat) (c : ByteArray) : ByteArray := if opZ rv i c = 0 then opS rv (nS (i : Int)) c else ⟨#[]⟩
def opU (su : Bool) (rv : ByteArray) (i : Nat) (c : ByteArray) : Bool := if opZ rv i c = 0 then true else su
def opQ (sz : Nat) (q : List Nat) (rv : ByteArray) (i : Nat) (c : ByteArray) : List Nat := if opZ rv i c = 0 then mk sz q i else q
def opF (sd : ByteArray) (ct lf sz mt : Nat) (q : List Nat) (n i : Nat) : Int := if ovB sd lf mt n = true then 180 else if ct ≤ i then 180 else my sz q i
theorem c_ASeal (sd : ByteArray) (nx : Nat) (s : ByteArray) (w : World) (hL : Laid w) : Calls Tryd.prog 41 #[.string sd, .string (nS (nx : Int)), .string ⟨#[]⟩, .string s] w fun r w' => r = .returned (.tuple #[.string (slC sd nx s), .int .i64 (slZ sd nx s)]) ∧ Below w.heap.size w w' := by
  by_cases h : slZ sd nx s = 0
  · unfold slC
    rw [if_pos h, h]
    exact c_SealA _ _ _ _ h w hL
  · unfold slC
    rw [if_neg h]
    exact c_SealB _ _ _ _ h w hL
theorem c_AOpen (rv : ByteArray) (i : Nat) (c : ByteArray) (w : World) (hL : Laid w) : Calls Tryd.prog 44 #[.string rv, .string (nS (i : Int)), .string ⟨#[]⟩, .string c] w fun r w' => r = .returned (.tuple #[.string (opC rv i c), .int .i64 (opZ rv i c)]) ∧ Below w.heap.size w w' := by
  unfold opC
  by_cases h : sf rv (nS (i : Int)) ⟨#[]⟩ c 16 = 0
  · by_cases h2 : tgX rv (nS (i : Int)) ⟨#[]⟩ c = c.extract (c.size - 16) c.size
    · have e : opZ rv i c = 0 := by unfold opZ; rw [if_pos h, if_pos h2]
      rw [if_pos e, e]
      exact c_OpenA _ _ _ _ h h2 w hL
    · have e : opZ rv i c = 100 := by unfold opZ; rw [if_pos h, if_neg h2]
      rw [if_neg (by rw [e]; decide), e]
      exact c_OpenB _ _ _ _ h h2 w hL
  · have e : opZ rv i c = sf rv (nS (i : Int)) ⟨#[]⟩ c 16 := by unfold opZ; rw [if_neg h]
    rw [if_neg (by rw [e]; exact h), e]
    exact c_OpenC _ _ _ _ h w hL
set_option maxRecDepth 100000 in
set_option maxHeartbeats 4000000 in
set_option linter.unusedSimpArgs false in
theorem c_seal {e wd md : Nat} {rc ct rk lf sz nx : Nat} {sd rv : ByteArray} {fi su : Bool} {s : ByteArray} (hx : nx + 1 < 18446744073709551616) (w : World) (hL : Laid w)  (hT : There w [⟨e, .cells (av 12 (ls [.pointer (some ⟨wd, 0, none⟩), .func (.func 39) #[] #[.pointer (some ⟨md, 0, none⟩)], .int .u64 (rc : Int), .int .u64 (ct : Int), .int .u64 (rk : Int), .int .u64 (lf : Int), .int .i64 (sz : Int), .string sd, .string rv, .bool (fi), .bool (su), .int .u64 (nx : Int)])) 64⟩]) :
    Calls Tryd.prog 25 #[.pointer (some ⟨e, 0, none⟩), .string s] w fun r w' => r = .returned (.tuple #[.int .u64 ((slN sd nx s : Nat) : Int), .string (slC sd nx s), .int .i64 (slZ sd nx s)]) ∧ Grw w w' [e] ∧ w'.heap[e]? = some (.cells (av 12 (ls [.pointer (some ⟨wd, 0, none⟩), .func (.func 39) #[] #[.pointer (some ⟨md, 0, none⟩)], .int .u64 (rc : Int), .int .u64 (ct : Int), .int .u64 (rk : Int), .int .u64 (lf : Int), .int .i64 (sz : Int), .string sd, .string rv, .bool (fi), .bool (su), .int .u64 ((slX sd nx s : Nat) : Int)])) 64) := by
  go_enter Tryd.func25, Tryd.ntmps25
  have M : Mem ⟨w, [e]⟩ [⟨e, .cells (av 12 (ls [.pointer (some ⟨wd, 0, none⟩), .func (.func 39) #[] #[.pointer (some ⟨md, 0, none⟩)], .int .u64 (rc : Int), .int .u64 (ct : Int), .int .u64 (rk : Int), .int .u64 (lf : Int), .int .i64 (sz : Int), .string sd, .string rv, .bool (fi), .bool (su), .int .u64 (nx : Int)])) 64⟩] w := Mem.startT hL hT
  refine wp_seq ?_
  refine rg_lit ?_
  refine pl_val (want_no rfl) (some 4) rfl (.int .u64 0) (fun _ => by kernel_rfl) ?_
  refine pl_val (want_no rfl) (some 5) rfl (.string ⟨#[]⟩) (fun _ => by kernel_rfl) ?_
  refine pl_val (want_no rfl) (some 6) rfl (.int .i64 0) (fun _ => by kernel_rfl) ?_
  refine pl_nil ?_
  refine au_then ?_
  refine wp_seq ?_
  refine rg_lit ?_
  refine pl_val (want_no rfl) (some 10) rfl (.pointer (some ⟨e, 0, none⟩)) (fun _ => by kernel_rfl) ?_
  refine pl_val (want_no rfl) (some 11) rfl (.pointer (some ⟨e, 0, none⟩)) (fun _ => by kernel_rfl) ?_
  refine pl_val (want_no rfl) (some 12) rfl (.pointer (some ⟨e, 11, none⟩)) (fun _ => by kernel_rfl) ?_
  refine pl_cell M (want_no rfl) (some 13) rfl 22 _ rfl e 11 (by kernel_rfl) (.int .u64 (nx : Int)) (fun _ => by kernel_rfl) (fun w M => M.cell 0 rfl (by decide) rfl) ?_
  refine pl_val (want_no rfl) (some 7) rfl (.int .u64 (nx : Int)) (fun _ => by kernel_rfl) ?_
  refine pl_nil ?_
  refine au_then ?_
  refine wp_seq ?_
  refine rg_held M [⟨e, .cells (av 12 (ls [.pointer (some ⟨wd, 0, none⟩), .func (.func 39) #[] #[.pointer (some ⟨md, 0, none⟩)], .int .u64 (rc : Int), .int .u64 (ct : Int), .int .u64 (rk : Int), .int .u64 (lf : Int), .int .i64 (sz : Int), .string sd, .string rv, .bool (fi), .bool (su), .int .u64 (nx : Int)])) 64⟩] 12 rfl (by kernel_rfl) (by kernel_rfl) (fun _ _ d _ _ h => by cases d <;> exact h) ?_
  intro u1 M
  replace M : Mem ⟨w, [e]⟩ [⟨e, .cells (av 12 (ls [.pointer (some ⟨wd, 0, none⟩), .func (.func 39) #[] #[.pointer (some ⟨md, 0, none⟩)], .int .u64 (rc : Int), .int .u64 (ct : Int), .int .u64 (rk : Int), .int .u64 (lf : Int), .int .i64 (sz : Int), .string sd, .string rv, .bool (fi), .bool (su), .int .u64 (nx : Int)])) 64⟩] u1 := M
  refine hl_val M 0 rfl (by decide) (by kernel_rfl) (by kernel_rfl) (want_no rfl) (some 15) rfl (.pointer (some ⟨e, 0, none⟩)) (fun _ _ => by kernel_rfl) ?_
  refine hl_val M 1 rfl (by decide) (by kernel_rfl) (by kernel_rfl) (want_no rfl) (some 16) rfl (.pointer (some ⟨e, 0, none⟩)) (fun _ _ => by kernel_rfl) ?_
  refine hl_val M 2 rfl (by decide) (by kernel_rfl) (by kernel_rfl) (want_no rfl) (some 17) rfl (.pointer (some ⟨e, 7, none⟩)) (fun _ _ => by kernel_rfl) ?_
  refine hl_cell M 3 rfl (by decide) (by kernel_rfl) (by kernel_rfl) (want_no rfl) (some 18) rfl 9 _ rfl e 7 (by kernel_rfl) (.string sd) (fun _ => by kernel_rfl) (fun w M => M.cell 0 rfl (by decide) rfl) ?_
  refine hl_val M 4 rfl (by decide) (by kernel_rfl) (by kernel_rfl) (want_no rfl) (some 19) rfl (.int .u64 (nx : Int)) (fun _ _ => by kernel_rfl) ?_
  refine hl_val M 6 rfl (by decide) (by kernel_rfl) (by kernel_rfl) (want_no rfl) (some 21) rfl (.string s) (fun _ _ => by kernel_rfl) ?_
  refine hl_one 5 (by decide) (by kernel_rfl) rfl ?_
  refine pl_call M (want_no rfl) (some 20) rfl 42 #[.int .u64 (nx : Int)] (.string (nS (nx : Int))) (fun _ => by kernel_rfl) (fun w M => c_Nonce (nx : Int) w M.laid) ?_
  intro u2 M
  refine pl_nil ?_
  refine au_then ?_
  refine ⟨M, ?_⟩
  refine hl_one 7 (by decide) (by kernel_rfl) rfl ?_
  refine pl_call M (want_no rfl) (some 22) rfl 41 #[.string sd, .string (nS (nx : Int)), .string ⟨#[]⟩, .string s] (.tuple #[.string (slC sd nx s), .int .i64 (slZ sd nx s)]) (fun _ => by kernel_rfl) (fun w M => c_ASeal sd nx s w M.laid) ?_
  intro u3 M
  refine pl_nil ?_
  refine au_then ?_
  refine ⟨M, ?_⟩
  refine hl_val M 8 rfl (by decide) (by kernel_rfl) (by kernel_rfl) (want_no rfl) (some 14) rfl (.tuple #[.string (slC sd nx s), .int .i64 (slZ sd nx s)]) (fun _ _ => by kernel_rfl) ?_
  refine hl_val M 9 rfl (by decide) (by kernel_rfl) (by kernel_rfl) (want_no rfl) (some 23) rfl (.string (slC sd nx s)) (fun _ _ => by kernel_rfl) ?_
  refine hl_val M 10 rfl (by decide) (by kernel_rfl) (by kernel_rfl) (want_no rfl) (some 24) rfl (.int .i64 (slZ sd nx s)) (fun _ _ => by kernel_rfl) ?_
  refine hl_val M 11 rfl (by decide) (by kernel_rfl) (by kernel_rfl) (want_no rfl) (some 8) rfl (.string (slC sd nx s)) (fun _ _ => by kernel_rfl) ?_
  refine hl_end (by kernel_rfl) (by kernel_rfl) rfl ?_
  refine pl_val (want_no rfl) (some 9) rfl (.int .i64 (slZ sd nx s)) (fun _ => by kernel_rfl) ?_
  refine pl_nil ?_
  refine au_then ?_
  refine au_then ?_
  refine wp_seq ?_
  refine wp_seq ?_
  refine rg_lit ?_
  refine pl_val (want_no rfl) (some 25) rfl (.int .i64 (slZ sd nx s)) (fun _ => by kernel_rfl) ?_
  by_cases c0 : (slZ sd nx s) = 0
  · skip
    refine pl_val (want_no rfl) (some 26) rfl (.bool false) (fun w => Eq.trans (b := .ok (.value (.bool (!(decide ((slZ sd nx s) = 0))))) w) (by kernel_rfl) (by rw [decide_eq_true (c0)]; rfl)) ?_
    refine pl_nil ?_
    refine au_then ?_
    refine wp_cond_false (by kernel_rfl) ?_
    refine wp_skip ?_
    refine au_then ?_
    refine wp_seq ?_
    refine rg_lit ?_
    refine pl_val (want_no rfl) (some 28) rfl (.pointer (some ⟨e, 0, none⟩)) (fun _ => by kernel_rfl) ?_
    refine pl_val (want_no rfl) (some 29) rfl (.pointer (some ⟨e, 0, none⟩)) (fun _ => by kernel_rfl) ?_
    refine pl_val (want_no rfl) (some 30) rfl (.pointer (some ⟨e, 11, none⟩)) (fun _ => by kernel_rfl) ?_
    refine pl_cell M (want_no rfl) (some 31) rfl 22 _ rfl e 11 (by kernel_rfl) (.int .u64 (nx : Int)) (fun _ => by kernel_rfl) (fun w M => M.cell 0 rfl (by decide) rfl) ?_
    refine pl_val (want_no rfl) (some 32) rfl (.int .u64 ((nx + 1 : Nat) : Int)) (fun w => Eq.trans (b := .ok (.value (.int .u64 (IntKind.wrap .u64 (((nx : Nat) : Int) + 1)))) w) (by kernel_rfl) (by rw [wrapU_suc nx (by omega)])) ?_
    refine pl_val (want_no rfl) (some 33) rfl (.pointer (some ⟨e, 0, none⟩)) (fun _ => by kernel_rfl) ?_
    refine pl_val (want_no rfl) (some 34) rfl (.pointer (some ⟨e, 11, none⟩)) (fun _ => by kernel_rfl) ?_
    refine pl_put1 M (want_no rfl) rfl 22 _ _ rfl 0 e 11 (by kernel_rfl) 12 64 (ls [.pointer (some ⟨wd, 0, none⟩), .func (.func 39) #[] #[.pointer (some ⟨md, 0, none⟩)], .int .u64 (rc : Int), .int .u64 (ct : Int), .int .u64 (rk : Int), .int .u64 (lf : Int), .int .i64 (sz : Int), .string sd, .string rv, .bool (fi), .bool (su), .int .u64 (nx : Int)]) rfl (.int .u64 ((nx + 1 : Nat) : Int)) (ls [.pointer (some ⟨wd, 0, none⟩), .func (.func 39) #[] #[.pointer (some ⟨md, 0, none⟩)], .int .u64 (rc : Int), .int .u64 (ct : Int), .int .u64 (rk : Int), .int .u64 (lf : Int), .int .i64 (sz : Int), .string sd, .string rv, .bool (fi), .bool (su), .int .u64 ((nx + 1 : Nat) : Int)]) (by kernel_rfl) inz22 (by decide) rfl rfl (put_ls _ 11 _ _ rfl) ?_
    intro u4 M
    replace M : Mem ⟨w, [e]⟩ [⟨e, .cells (av 12 (ls [.pointer (some ⟨wd, 0, none⟩), .func (.func 39) #[] #[.pointer (some ⟨md, 0, none⟩)], .int .u64 (rc : Int), .int .u64 (ct : Int), .int .u64 (rk : Int), .int .u64 (lf : Int), .int .i64 (sz : Int), .string sd, .string rv, .bool (fi), .bool (su), .int .u64 ((nx + 1 : Nat) : Int)])) 64⟩] u4 := M
    refine pl_nil ?_
    refine au_then ?_
    refine wp_seq ?_
    refine rg_lit ?_
    refine pl_val (want_no rfl) (some 35) rfl (.int .u64 (nx : Int)) (fun _ => by kernel_rfl) ?_
    refine pl_val (want_no rfl) (some 36) rfl (.string (slC sd nx s)) (fun _ => by kernel_rfl) ?_
    refine pl_val (want_no rfl) (some 4) rfl (.int .u64 (nx : Int)) (fun _ => by kernel_rfl) ?_
    refine pl_val (want_no rfl) (some 5) rfl (.string (slC sd nx s)) (fun _ => by kernel_rfl) ?_
    refine pl_val (want_no rfl) (some 6) rfl (.int .i64 0) (fun _ => by kernel_rfl) ?_
    refine pl_nil ?_
    refine au_then ?_
    refine wp_ret ?_
    have e0 : slN sd nx s = nx := by unfold slN; rw [if_pos c0]
    have e1 : slX sd nx s = nx + 1 := by unfold slX; rw [if_pos c0]
    have e2 : slC sd nx s = sealS sd (nS (nx : Int)) ⟨#[]⟩ s := by unfold slC; rw [if_pos c0]
    exact bodyPost_ret (v := .tuple #[.int .u64 (nx : Int), .string (slC sd nx s), .int .i64 0]) (results_t3 Tryd.results25 _ _ _ _ _ (by kernel_rfl) (by kernel_rfl) (by kernel_rfl)) (by kernel_rfl) ⟨by rw [e0, c0], M.old, by rw [e1]; exact M.get 0 rfl⟩
  · skip
    refine pl_val (want_no rfl) (some 26) rfl (.bool true) (fun w => Eq.trans (b := .ok (.value (.bool (!(decide ((slZ sd nx s) = 0))))) w) (by kernel_rfl) (by rw [decide_eq_false (c0)]; rfl)) ?_
    refine pl_nil ?_
    refine au_then ?_
    refine wp_cond_true (by kernel_rfl) ?_
    refine wp_seq ?_
    refine rg_lit ?_
    refine pl_val (want_no rfl) (some 27) rfl (.int .i64 (slZ sd nx s)) (fun _ => by kernel_rfl) ?_
    refine pl_val (want_no rfl) (some 4) rfl (.int .u64 0) (fun _ => by kernel_rfl) ?_
    refine pl_val (want_no rfl) (some 5) rfl (.string ⟨#[]⟩) (fun _ => by kernel_rfl) ?_
    refine pl_val (want_no rfl) (some 6) rfl (.int .i64 (slZ sd nx s)) (fun _ => by kernel_rfl) ?_
    refine pl_nil ?_
    refine au_then ?_
    refine wp_ret ?_
    refine au_then_ret ?_
    have e0 : slN sd nx s = 0 := by unfold slN; rw [if_neg c0]
    have e1 : slX sd nx s = nx := by unfold slX; rw [if_neg c0]
    have e2 : slC sd nx s = ⟨#[]⟩ := by unfold slC; rw [if_neg c0]
    exact bodyPost_ret (v := .tuple #[.int .u64 0, .string ⟨#[]⟩, .int .i64 (slZ sd nx s)]) (results_t3 Tryd.results25 _ _ _ _ _ (by kernel_rfl) (by kernel_rfl) (by kernel_rfl)) (by kernel_rfl) ⟨by rw [e0, e2]; rfl, M.old, by rw [e1]; exact M.get 0 rfl⟩

set_option maxRecDepth 100000 in
set_option maxHeartbeats 4000000 in
set_option linter.unusedSimpArgs false in
theorem c_openFault {e wd k md : Nat} {rc ct rk lf sz nx mt : Nat} {sd rv : ByteArray} {fi su : Bool} {h : Nat} {m : Nat → Int} {q : List Nat} {n i : Nat} (hs : 1 ≤ sz) (hh : h < 18446744073709551616) (I : Inv sz h m q) (hn : n < 18446744073709551616) (hi : i < 18446744073709551616) (w : World) (hL : Laid w)  (hT : There w [⟨e, .cells (av 12 (ls [.pointer (some ⟨wd, 0, none⟩), .func (.func 39) #[] #[.pointer (some ⟨md, 0, none⟩)], .int .u64 (rc : Int), .int .u64 (ct : Int), .int .u64 (rk : Int), .int .u64 (lf : Int), .int .i64 (sz : Int), .string sd, .string rv, .bool (fi), .bool (su), .int .u64 (nx : Int)])) 64⟩, ⟨wd, .cells (av 3 (ls [.int .u64 (sz : Int), .int .u64 (h : Int), .slice (some ⟨k, 0, none⟩) (nW sz) (nW sz)])) 88⟩, ⟨k, .cells (av (nW sz) (w64 m)) 22⟩, ⟨md, .cells (av 1 (ls [.int .u64 (mt : Int)])) 22⟩]) :
    Calls Tryd.prog 26 #[.pointer (some ⟨e, 0, none⟩), .int .u64 (n : Int), .int .u64 (i : Int)] w fun r w' => r = .returned (.int .i64 (opF sd ct lf sz mt q n i)) ∧ Below w.heap.size w w' := by
  go_enter Tryd.func26, Tryd.ntmps26
  have M : Mem ⟨w, [e, wd, k, md]⟩ [⟨e, .cells (av 12 (ls [.pointer (some ⟨wd, 0, none⟩), .func (.func 39) #[] #[.pointer (some ⟨md, 0, none⟩)], .int .u64 (rc : Int), .int .u64 (ct : Int), .int .u64 (rk : Int), .int .u64 (lf : Int), .int .i64 (sz : Int), .string sd, .string rv, .bool (fi), .bool (su), .int .u64 (nx : Int)])) 64⟩, ⟨wd, .cells (av 3 (ls [.int .u64 (sz : Int), .int .u64 (h : Int), .slice (some ⟨k, 0, none⟩) (nW sz) (nW sz)])) 88⟩, ⟨k, .cells (av (nW sz) (w64 m)) 22⟩, ⟨md, .cells (av 1 (ls [.int .u64 (mt : Int)])) 22⟩] w := Mem.startT hL hT
  refine wp_seq ?_
  refine rg_lit ?_
  refine pl_val (want_no rfl) (some 6) rfl (.int .i64 0) (fun _ => by kernel_rfl) ?_
  refine pl_nil ?_
  refine au_then ?_
  refine wp_seq ?_
  refine wp_seq ?_
  refine rg_lit ?_
  refine pl_val (want_no rfl) (some 7) rfl (.pointer (some ⟨e, 0, none⟩)) (fun _ => by kernel_rfl) ?_
  refine pl_val (want_no rfl) (some 8) rfl (.int .u64 (n : Int)) (fun _ => by kernel_rfl) ?_
  rcases Bool.eq_false_or_eq_true (ovB sd lf mt n) with c0 | c0
  · skip
    refine pl_call M (want_no rfl) (some 9) rfl 33 #[.pointer (some ⟨e, 0, none⟩), .int .u64 (n : Int)] (.bool true) (fun _ => by kernel_rfl) (fun w M => call_val (c_over hn w M.laid (M.there (.cons_cons _ (.cons _ (.cons _ (.cons_cons _ (List.nil_sublist _))))))) (congrArg Value.bool c0)) ?_
    intro u1 M
    refine pl_val (want_no rfl) (some 10) rfl (.bool true) (fun _ => by kernel_rfl) ?_
    refine pl_skip (want_off 3 false rfl 10 rfl (by kernel_rfl)) (some 11) rfl ?_
    refine pl_skip (want_off 3 false rfl 10 rfl (by kernel_rfl)) (some 12) rfl ?_
    refine pl_skip (want_off 3 false rfl 10 rfl (by kernel_rfl)) (some 13) rfl ?_
    refine pl_skip (want_off 3 false rfl 10 rfl (by kernel_rfl)) (some 14) rfl ?_
    refine pl_skip (want_off 3 false rfl 10 rfl (by kernel_rfl)) (some 15) rfl ?_
    refine pl_skip (want_off 3 false rfl 10 rfl (by kernel_rfl)) (some 16) rfl ?_
    refine pl_skip (want_off 3 false rfl 10 rfl (by kernel_rfl)) (some 17) rfl ?_
    refine pl_val (want_no rfl) (some 18) rfl (.bool true) (fun _ => by kernel_rfl) ?_
    refine pl_nil ?_
    refine au_then ?_
    refine wp_cond_true (by kernel_rfl) ?_
    refine wp_seq ?_
    refine rg_lit ?_
    refine pl_val (want_no rfl) (some 6) rfl (.int .i64 180) (fun _ => by kernel_rfl) ?_
    refine pl_nil ?_
    refine au_then ?_
    refine wp_ret ?_
    refine au_then_ret ?_
    have e0 : (opF sd ct lf sz mt q n i) = 180 := by unfold opF; rw [if_pos c0]
    exact bodyPost_ret (v := .int .i64 180) (results_tmp1 Tryd.results26 _ _ _ (by kernel_rfl)) (by kernel_rfl) ⟨by rw [e0], ro_T hT M⟩
  · skip
    refine pl_call M (want_no rfl) (some 9) rfl 33 #[.pointer (some ⟨e, 0, none⟩), .int .u64 (n : Int)] (.bool false) (fun _ => by kernel_rfl) (fun w M => call_val (c_over hn w M.laid (M.there (.cons_cons _ (.cons _ (.cons _ (.cons_cons _ (List.nil_sublist _))))))) (congrArg Value.bool c0)) ?_
    intro u1 M
    refine pl_val (want_no rfl) (some 10) rfl (.bool false) (fun _ => by kernel_rfl) ?_
    refine pl_val (want_on 3 false rfl 10 rfl (by kernel_rfl)) (some 11) rfl (.int .u64 (i : Int)) (fun _ => by kernel_rfl) ?_
    refine pl_val (want_on 3 false rfl 10 rfl (by kernel_rfl)) (some 12) rfl (.pointer (some ⟨e, 0, none⟩)) (fun _ => by kernel_rfl) ?_
    refine pl_val (want_on 3 false rfl 10 rfl (by kernel_rfl)) (some 13) rfl (.pointer (some ⟨e, 0, none⟩)) (fun _ => by kernel_rfl) ?_
    refine pl_val (want_on 3 false rfl 10 rfl (by kernel_rfl)) (some 14) rfl (.pointer (some ⟨e, 2, none⟩)) (fun _ => by kernel_rfl) ?_
    refine pl_val (want_on 3 false rfl 10 rfl (by kernel_rfl)) (some 15) rfl (.pointer (some ⟨e, 3, none⟩)) (fun _ => by kernel_rfl) ?_
    refine pl_cell M (want_on 3 false rfl 10 rfl (by kernel_rfl)) (some 16) rfl 22 _ rfl e 3 (by kernel_rfl) (.int .u64 (ct : Int)) (fun _ => by kernel_rfl) (fun w M => M.cell 0 rfl (by decide) rfl) ?_
    by_cases c1 : (i : Int) < (ct : Int)
    · skip
      refine pl_val (want_on 3 false rfl 10 rfl (by kernel_rfl)) (some 17) rfl (.bool false) (fun w => Eq.trans (b := .ok (.value (.bool (decide ((ct : Int) ≤ (i : Int))))) w) (by kernel_rfl) (by rw [decide_eq_false (by omega)])) ?_
      refine pl_val (want_no rfl) (some 18) rfl (.bool false) (fun _ => by kernel_rfl) ?_
      refine pl_nil ?_
      refine au_then ?_
      refine wp_cond_false (by kernel_rfl) ?_
      refine wp_skip ?_
      refine au_then ?_
      refine wp_seq ?_
      refine rg_lit ?_
      refine pl_val (want_no rfl) (some 19) rfl (.pointer (some ⟨e, 0, none⟩)) (fun _ => by kernel_rfl) ?_
      refine pl_val (want_no rfl) (some 20) rfl (.pointer (some ⟨e, 0, none⟩)) (fun _ => by kernel_rfl) ?_
      refine pl_val (want_no rfl) (some 21) rfl (.pointer (some ⟨e, 0, none⟩)) (fun _ => by kernel_rfl) ?_
      refine pl_cell M (want_no rfl) (some 22) rfl 57 _ rfl e 0 (by kernel_rfl) (.pointer (some ⟨wd, 0, none⟩)) (fun _ => by kernel_rfl) (fun w M => M.cell 0 rfl (by decide) rfl) ?_
      refine pl_val (want_no rfl) (some 23) rfl (.int .u64 (i : Int)) (fun _ => by kernel_rfl) ?_
      refine pl_call M (want_no rfl) (some 24) rfl 43 #[.pointer (some ⟨wd, 0, none⟩), .int .u64 (i : Int)] (.int .i64 (my sz q i)) (fun _ => by kernel_rfl) (fun w M => a_May hs hh hi I w M.laid (M.there (.cons _ (.cons_cons _ (.cons_cons _ (List.nil_sublist _)))))) ?_
      intro u2 M
      refine pl_val (want_no rfl) (some 6) rfl (.int .i64 (my sz q i)) (fun _ => by kernel_rfl) ?_
      refine pl_nil ?_
      refine au_then ?_
      refine wp_ret ?_
      have e0 : (opF sd ct lf sz mt q n i) = (my sz q i) := by unfold opF; rw [if_neg (Bool.eq_false_iff.1 c0), if_neg (by omega)]
      exact bodyPost_ret (v := .int .i64 (my sz q i)) (results_tmp1 Tryd.results26 _ _ _ (by kernel_rfl)) (by kernel_rfl) ⟨by rw [e0], ro_T hT M⟩
    · skip
      refine pl_val (want_on 3 false rfl 10 rfl (by kernel_rfl)) (some 17) rfl (.bool true) (fun w => Eq.trans (b := .ok (.value (.bool (decide ((ct : Int) ≤ (i : Int))))) w) (by kernel_rfl) (by rw [decide_eq_true (by omega)])) ?_
      refine pl_val (want_no rfl) (some 18) rfl (.bool true) (fun _ => by kernel_rfl) ?_
      refine pl_nil ?_
      refine au_then ?_
      refine wp_cond_true (by kernel_rfl) ?_
      refine wp_seq ?_
      refine rg_lit ?_
      refine pl_val (want_no rfl) (some 6) rfl (.int .i64 180) (fun _ => by kernel_rfl) ?_
      refine pl_nil ?_
      refine au_then ?_
      refine wp_ret ?_
      refine au_then_ret ?_
      have e0 : (opF sd ct lf sz mt q n i) = 180 := by unfold opF; rw [if_neg (Bool.eq_false_iff.1 c0), if_pos (by omega)]
      exact bodyPost_ret (v := .int .i64 180) (results_tmp1 Tryd.results26 _ _ _ (by kernel_rfl)) (by kernel_rfl) ⟨by rw [e0], ro_T hT M⟩

set_option maxRecDepth 100000 in
set_option maxHeartbeats 4000000 in
set_option linter.unusedSimpArgs false in
theorem c_open {e wd k md : Nat} {rc ct rk lf sz nx : Nat} {sd rv : ByteArray} {fi su : Bool} {h : Nat} {m : Nat → Int} {q : List Nat} {i : Nat} {c : ByteArray} (hs : 1 ≤ sz) (hh : h < 18446744073709551616) (I : Inv sz h m q) (hi : i < 18446744073709551616) (w : World) (hL : Laid w)  (hT : There w [⟨e, .cells (av 12 (ls [.pointer (some ⟨wd, 0, none⟩), .func (.func 39) #[] #[.pointer (some ⟨md, 0, none⟩)], .int .u64 (rc : Int), .int .u64 (ct : Int), .int .u64 (rk : Int), .int .u64 (lf : Int), .int .i64 (sz : Int), .string sd, .string rv, .bool (fi), .bool (su), .int .u64 (nx : Int)])) 64⟩, ⟨wd, .cells (av 3 (ls [.int .u64 (sz : Int), .int .u64 (h : Int), .slice (some ⟨k, 0, none⟩) (nW sz) (nW sz)])) 88⟩, ⟨k, .cells (av (nW sz) (w64 m)) 22⟩]) :
    Calls Tryd.prog 27 #[.pointer (some ⟨e, 0, none⟩), .int .u64 (i : Int), .string c] w fun r w' => ∃ x : Nat × (Nat → Int), r = .returned (.tuple #[.string (opC rv i c), .int .i64 (opZ rv i c)]) ∧ (Inv sz x.1 x.2 (opQ sz q rv i c) ∧ x.1 < 18446744073709551616) ∧ OkT w w' [⟨e, .cells (av 12 (ls [.pointer (some ⟨wd, 0, none⟩), .func (.func 39) #[] #[.pointer (some ⟨md, 0, none⟩)], .int .u64 (rc : Int), .int .u64 (ct : Int), .int .u64 (rk : Int), .int .u64 (lf : Int), .int .i64 (sz : Int), .string sd, .string rv, .bool (fi), .bool (su), .int .u64 (nx : Int)])) 64⟩, ⟨wd, .cells (av 3 (ls [.int .u64 (sz : Int), .int .u64 ((h : Int)), .slice (some ⟨k, 0, none⟩) (nW sz) (nW sz)])) 88⟩, ⟨k, .cells (av (nW sz) (w64 m)) 22⟩] [⟨e, .cells (av 12 (ls [.pointer (some ⟨wd, 0, none⟩), .func (.func 39) #[] #[.pointer (some ⟨md, 0, none⟩)], .int .u64 (rc : Int), .int .u64 (ct : Int), .int .u64 (rk : Int), .int .u64 (lf : Int), .int .i64 (sz : Int), .string sd, .string rv, .bool (fi), .bool (opU su rv i c), .int .u64 (nx : Int)])) 64⟩, ⟨wd, .cells (av 3 (ls [.int .u64 (sz : Int), .int .u64 (((x.1 : Nat) : Int)), .slice (some ⟨k, 0, none⟩) (nW sz) (nW sz)])) 88⟩, ⟨k, .cells (av (nW sz) (w64 x.2)) 22⟩] := by
  go_enter Tryd.func27, Tryd.ntmps27
  have M : Mem ⟨w, [e, wd, k]⟩ [⟨e, .cells (av 12 (ls [.pointer (some ⟨wd, 0, none⟩), .func (.func 39) #[] #[.pointer (some ⟨md, 0, none⟩)], .int .u64 (rc : Int), .int .u64 (ct : Int), .int .u64 (rk : Int), .int .u64 (lf : Int), .int .i64 (sz : Int), .string sd, .string rv, .bool (fi), .bool (su), .int .u64 (nx : Int)])) 64⟩, ⟨wd, .cells (av 3 (ls [.int .u64 (sz : Int), .int .u64 (h : Int), .slice (some ⟨k, 0, none⟩) (nW sz) (nW sz)])) 88⟩, ⟨k, .cells (av (nW sz) (w64 m)) 22⟩] w := Mem.startT hL hT
  refine wp_seq ?_
  refine rg_lit ?_
  refine pl_val (want_no rfl) (some 6) rfl (.string ⟨#[]⟩) (fun _ => by kernel_rfl) ?_
  refine pl_val (want_no rfl) (some 7) rfl (.int .i64 0) (fun _ => by kernel_rfl) ?_
  refine pl_nil ?_
  refine au_then ?_
  refine wp_seq ?_
  refine rg_held M [⟨e, .cells (av 12 (ls [.pointer (some ⟨wd, 0, none⟩), .func (.func 39) #[] #[.pointer (some ⟨md, 0, none⟩)], .int .u64 (rc : Int), .int .u64 (ct : Int), .int .u64 (rk : Int), .int .u64 (lf : Int), .int .i64 (sz : Int), .string sd, .string rv, .bool (fi), .bool (su), .int .u64 (nx : Int)])) 64⟩, ⟨wd, .cells (av 3 (ls [.int .u64 (sz : Int), .int .u64 (h : Int), .slice (some ⟨k, 0, none⟩) (nW sz) (nW sz)])) 88⟩, ⟨k, .cells (av (nW sz) (w64 m)) 22⟩] 12 rfl (by kernel_rfl) (by kernel_rfl) (fun _ _ d _ _ h => by cases d <;> exact h) ?_
  intro u1 M
  replace M : Mem ⟨w, [e, wd, k]⟩ [⟨e, .cells (av 12 (ls [.pointer (some ⟨wd, 0, none⟩), .func (.func 39) #[] #[.pointer (some ⟨md, 0, none⟩)], .int .u64 (rc : Int), .int .u64 (ct : Int), .int .u64 (rk : Int), .int .u64 (lf : Int), .int .i64 (sz : Int), .string sd, .string rv, .bool (fi), .bool (su), .int .u64 (nx : Int)])) 64⟩, ⟨wd, .cells (av 3 (ls [.int .u64 (sz : Int), .int .u64 (h : Int), .slice (some ⟨k, 0, none⟩) (nW sz) (nW sz)])) 88⟩, ⟨k, .cells (av (nW sz) (w64 m)) 22⟩] u1 := M
  refine hl_val M 0 rfl (by decide) (by kernel_rfl) (by kernel_rfl) (want_no rfl) (some 11) rfl (.pointer (some ⟨e, 0, none⟩)) (fun _ _ => by kernel_rfl) ?_
  refine hl_val M 1 rfl (by decide) (by kernel_rfl) (by kernel_rfl) (want_no rfl) (some 12) rfl (.pointer (some ⟨e, 0, none⟩)) (fun _ _ => by kernel_rfl) ?_
  refine hl_val M 2 rfl (by decide) (by kernel_rfl) (by kernel_rfl) (want_no rfl) (some 13) rfl (.pointer (some ⟨e, 8, none⟩)) (fun _ _ => by kernel_rfl) ?_
  refine hl_cell M 3 rfl (by decide) (by kernel_rfl) (by kernel_rfl) (want_no rfl) (some 14) rfl 9 _ rfl e 8 (by kernel_rfl) (.string rv) (fun _ => by kernel_rfl) (fun w M => M.cell 0 rfl (by decide) rfl) ?_
  refine hl_val M 4 rfl (by decide) (by kernel_rfl) (by kernel_rfl) (want_no rfl) (some 15) rfl (.int .u64 (i : Int)) (fun _ _ => by kernel_rfl) ?_
  refine hl_val M 6 rfl (by decide) (by kernel_rfl) (by kernel_rfl) (want_no rfl) (some 17) rfl (.string c) (fun _ _ => by kernel_rfl) ?_
  refine hl_one 5 (by decide) (by kernel_rfl) rfl ?_
  refine pl_call M (want_no rfl) (some 16) rfl 42 #[.int .u64 (i : Int)] (.string (nS (i : Int))) (fun _ => by kernel_rfl) (fun w M => c_Nonce (i : Int) w M.laid) ?_
  intro u2 M
  refine pl_nil ?_
  refine au_then ?_
  refine ⟨M, ?_⟩
  refine hl_one 7 (by decide) (by kernel_rfl) rfl ?_
  refine pl_call M (want_no rfl) (some 18) rfl 44 #[.string rv, .string (nS (i : Int)), .string ⟨#[]⟩, .string c] (.tuple #[.string (opC rv i c), .int .i64 (opZ rv i c)]) (fun _ => by kernel_rfl) (fun w M => c_AOpen rv i c w M.laid) ?_
  intro u3 M
  refine pl_nil ?_
  refine au_then ?_
  refine ⟨M, ?_⟩
  refine hl_val M 8 rfl (by decide) (by kernel_rfl) (by kernel_rfl) (want_no rfl) (some 10) rfl (.tuple #[.string (opC rv i c), .int .i64 (opZ rv i c)]) (fun _ _ => by kernel_rfl) ?_
  refine hl_val M 9 rfl (by decide) (by kernel_rfl) (by kernel_rfl) (want_no rfl) (some 19) rfl (.string (opC rv i c)) (fun _ _ => by kernel_rfl) ?_
  refine hl_val M 10 rfl (by decide) (by kernel_rfl) (by kernel_rfl) (want_no rfl) (some 20) rfl (.int .i64 (opZ rv i c)) (fun _ _ => by kernel_rfl) ?_
  refine hl_val M 11 rfl (by decide) (by kernel_rfl) (by kernel_rfl) (want_no rfl) (some 8) rfl (.string (opC rv i c)) (fun _ _ => by kernel_rfl) ?_
  refine hl_end (by kernel_rfl) (by kernel_rfl) rfl ?_
  refine pl_val (want_no rfl) (some 9) rfl (.int .i64 (opZ rv i c)) (fun _ => by kernel_rfl) ?_
  refine pl_nil ?_
  refine au_then ?_
  refine au_then ?_
  refine wp_seq ?_
  refine wp_seq ?_
  refine rg_lit ?_
  refine pl_val (want_no rfl) (some 21) rfl (.int .i64 (opZ rv i c)) (fun _ => by kernel_rfl) ?_
  by_cases c0 : (opZ rv i c) = 0
  · skip
    refine pl_val (want_no rfl) (some 22) rfl (.bool false) (fun w => Eq.trans (b := .ok (.value (.bool (!(decide ((opZ rv i c) = 0))))) w) (by kernel_rfl) (by rw [decide_eq_true (c0)]; rfl)) ?_
    refine pl_nil ?_
    refine au_then ?_
    refine wp_cond_false (by kernel_rfl) ?_
    refine wp_skip ?_
    refine au_then ?_
    refine wp_seq ?_
    refine rg_lit ?_
    refine pl_val (want_no rfl) (some 24) rfl (.pointer (some ⟨e, 0, none⟩)) (fun _ => by kernel_rfl) ?_
    refine pl_val (want_no rfl) (some 25) rfl (.pointer (some ⟨e, 0, none⟩)) (fun _ => by kernel_rfl) ?_
    refine pl_val (want_no rfl) (some 26) rfl (.pointer (some ⟨e, 0, none⟩)) (fun _ => by kernel_rfl) ?_
    refine pl_cell M (want_no rfl) (some 27) rfl 57 _ rfl e 0 (by kernel_rfl) (.pointer (some ⟨wd, 0, none⟩)) (fun _ => by kernel_rfl) (fun w M => M.cell 0 rfl (by decide) rfl) ?_
    refine pl_val (want_no rfl) (some 28) rfl (.int .u64 (i : Int)) (fun _ => by kernel_rfl) ?_
    refine pl_callM M (want_no rfl) (some 29) rfl 45 #[.pointer (some ⟨wd, 0, none⟩), .int .u64 (i : Int)] [⟨e, .cells (av 12 (ls [.pointer (some ⟨wd, 0, none⟩), .func (.func 39) #[] #[.pointer (some ⟨md, 0, none⟩)], .int .u64 (rc : Int), .int .u64 (ct : Int), .int .u64 (rk : Int), .int .u64 (lf : Int), .int .i64 (sz : Int), .string sd, .string rv, .bool (fi), .bool (su), .int .u64 (nx : Int)])) 64⟩] [⟨wd, .cells (av 3 (ls [.int .u64 (sz : Int), .int .u64 (h : Int), .slice (some ⟨k, 0, none⟩) (nW sz) (nW sz)])) 88⟩, ⟨k, .cells (av (nW sz) (w64 m)) 22⟩] [] (by simp only [List.append_assoc, List.cons_append, List.nil_append, List.append_nil]) (fun x : Nat × (Nat → Int) => .int .i64 (my sz q i)) (fun x : Nat × (Nat → Int) => [⟨wd, .cells (av 3 (ls [.int .u64 (sz : Int), .int .u64 ((x.1 : Nat) : Int), .slice (some ⟨k, 0, none⟩) (nW sz) (nW sz)])) 88⟩, ⟨k, .cells (av (nW sz) (w64 x.2)) 22⟩]) (fun x : Nat × (Nat → Int) => Inv sz x.1 x.2 (mk sz q i) ∧ x.1 < 18446744073709551616) (fun _ => by kernel_rfl) (fun w hL hT => a_Mark hs hh hi I w hL hT) ?_
    rintro ⟨h2, m2⟩ u4 ⟨I2, hh2⟩ M
    replace M : Mem ⟨w, [e, wd, k]⟩ [⟨e, .cells (av 12 (ls [.pointer (some ⟨wd, 0, none⟩), .func (.func 39) #[] #[.pointer (some ⟨md, 0, none⟩)], .int .u64 (rc : Int), .int .u64 (ct : Int), .int .u64 (rk : Int), .int .u64 (lf : Int), .int .i64 (sz : Int), .string sd, .string rv, .bool (fi), .bool (su), .int .u64 (nx : Int)])) 64⟩, ⟨wd, .cells (av 3 (ls [.int .u64 (sz : Int), .int .u64 (h2 : Int), .slice (some ⟨k, 0, none⟩) (nW sz) (nW sz)])) 88⟩, ⟨k, .cells (av (nW sz) (w64 m2)) 22⟩] u4 := by simpa only [List.append_assoc, List.cons_append, List.nil_append, List.append_nil] using M
    refine pl_nil ?_
    refine au_then ?_
    refine wp_seq ?_
    refine rg_lit ?_
    refine pl_val (want_no rfl) (some 30) rfl (.pointer (some ⟨e, 0, none⟩)) (fun _ => by kernel_rfl) ?_
    refine pl_val (want_no rfl) (some 31) rfl (.pointer (some ⟨e, 0, none⟩)) (fun _ => by kernel_rfl) ?_
    refine pl_val (want_no rfl) (some 32) rfl (.pointer (some ⟨e, 10, none⟩)) (fun _ => by kernel_rfl) ?_
    refine pl_put1 M (want_no rfl) rfl 4 _ _ rfl 0 e 10 (by kernel_rfl) 12 64 (ls [.pointer (some ⟨wd, 0, none⟩), .func (.func 39) #[] #[.pointer (some ⟨md, 0, none⟩)], .int .u64 (rc : Int), .int .u64 (ct : Int), .int .u64 (rk : Int), .int .u64 (lf : Int), .int .i64 (sz : Int), .string sd, .string rv, .bool (fi), .bool (su), .int .u64 (nx : Int)]) rfl (.bool true) (ls [.pointer (some ⟨wd, 0, none⟩), .func (.func 39) #[] #[.pointer (some ⟨md, 0, none⟩)], .int .u64 (rc : Int), .int .u64 (ct : Int), .int .u64 (rk : Int), .int .u64 (lf : Int), .int .i64 (sz : Int), .string sd, .string rv, .bool (fi), .bool true, .int .u64 (nx : Int)]) (by kernel_rfl) inz4 (by decide) rfl rfl (put_ls _ 10 _ _ rfl) ?_
    intro u5 M
    replace M : Mem ⟨w, [e, wd, k]⟩ [⟨e, .cells (av 12 (ls [.pointer (some ⟨wd, 0, none⟩), .func (.func 39) #[] #[.pointer (some ⟨md, 0, none⟩)], .int .u64 (rc : Int), .int .u64 (ct : Int), .int .u64 (rk : Int), .int .u64 (lf : Int), .int .i64 (sz : Int), .string sd, .string rv, .bool (fi), .bool true, .int .u64 (nx : Int)])) 64⟩, ⟨wd, .cells (av 3 (ls [.int .u64 (sz : Int), .int .u64 (h2 : Int), .slice (some ⟨k, 0, none⟩) (nW sz) (nW sz)])) 88⟩, ⟨k, .cells (av (nW sz) (w64 m2)) 22⟩] u5 := M
    refine pl_nil ?_
    refine au_then ?_
    refine wp_seq ?_
    refine rg_lit ?_
    refine pl_val (want_no rfl) (some 33) rfl (.string (opC rv i c)) (fun _ => by kernel_rfl) ?_
    refine pl_val (want_no rfl) (some 6) rfl (.string (opC rv i c)) (fun _ => by kernel_rfl) ?_
    refine pl_val (want_no rfl) (some 7) rfl (.int .i64 0) (fun _ => by kernel_rfl) ?_
    refine pl_nil ?_
    refine au_then ?_
    refine wp_ret ?_
    have e1 : opU su rv i c = true := by unfold opU; rw [if_pos c0]
    have e2 : opQ sz q rv i c = mk sz q i := by unfold opQ; rw [if_pos c0]
    exact bodyPost_ret (v := .tuple #[.string (opC rv i c), .int .i64 0]) (results_tmp2 Tryd.results27 _ _ _ _ (by kernel_rfl) (by kernel_rfl)) (by kernel_rfl) ⟨(h2, m2), by rw [c0], by rw [e2]; exact ⟨I2, hh2⟩, by rw [e1]; exact Mem.okT0 (T := [⟨e, _⟩, ⟨wd, _⟩, ⟨k, _⟩]) M⟩
  · skip
    refine pl_val (want_no rfl) (some 22) rfl (.bool true) (fun w => Eq.trans (b := .ok (.value (.bool (!(decide ((opZ rv i c) = 0))))) w) (by kernel_rfl) (by rw [decide_eq_false (c0)]; rfl)) ?_
    refine pl_nil ?_
    refine au_then ?_
    refine wp_cond_true (by kernel_rfl) ?_
    refine wp_seq ?_
    refine rg_lit ?_
    refine pl_val (want_no rfl) (some 23) rfl (.int .i64 (opZ rv i c)) (fun _ => by kernel_rfl) ?_
    refine pl_val (want_no rfl) (some 6) rfl (.string ⟨#[]⟩) (fun _ => by kernel_rfl) ?_
    refine pl_val (want_no rfl) (some 7) rfl (.int .i64 (opZ rv i c)) (fun _ => by kernel_rfl) ?_
    refine pl_nil ?_
    refine au_then ?_
    refine wp_ret ?_
    refine au_then_ret ?_
    have e1 : opU su rv i c = su := by unfold opU; rw [if_neg c0]
    have e2 : opQ sz q rv i c = q := by unfold opQ; rw [if_neg c0]
    have e3 : opC rv i c = ⟨#[]⟩ := by unfold opC; rw [if_neg c0]
    exact bodyPost_ret (v := .tuple #[.string ⟨#[]⟩, .int .i64 (opZ rv i c)]) (results_tmp2 Tryd.results27 _ _ _ _ (by kernel_rfl) (by kernel_rfl)) (by kernel_rfl) ⟨(h, m), by rw [e3], by rw [e2]; exact ⟨I, hh⟩, by rw [e1]; exact Mem.okT0 (T := [⟨e, _⟩, ⟨wd, _⟩, ⟨k, _⟩]) M⟩

set_option maxRecDepth 100000 in
set_option maxHeartbeats 4000000 in
set_option linter.unusedSimpArgs false in
theorem c_wipeE {e wd md : Nat} {rc ct rk lf sz nx : Nat} {sd rv : ByteArray} {fi su : Bool} (w : World) (hL : Laid w)  (hT : There w [⟨e, .cells (av 12 (ls [.pointer (some ⟨wd, 0, none⟩), .func (.func 39) #[] #[.pointer (some ⟨md, 0, none⟩)], .int .u64 (rc : Int), .int .u64 (ct : Int), .int .u64 (rk : Int), .int .u64 (lf : Int), .int .i64 (sz : Int), .string sd, .string rv, .bool (fi), .bool (su), .int .u64 (nx : Int)])) 64⟩]) :
    Calls Tryd.prog 28 #[.pointer (some ⟨e, 0, none⟩)] w fun r w' => r = .returned (.tuple #[]) ∧ Grw w w' [e] ∧ w'.heap[e]? = some (.cells (av 12 (ls [.pointer (some ⟨wd, 0, none⟩), .func (.func 39) #[] #[.pointer (some ⟨md, 0, none⟩)], .int .u64 (rc : Int), .int .u64 (ct : Int), .int .u64 (rk : Int), .int .u64 (lf : Int), .int .i64 (sz : Int), .string ⟨#[]⟩, .string ⟨#[]⟩, .bool (fi), .bool (su), .int .u64 (nx : Int)])) 64) := by
  go_enter Tryd.func28, Tryd.ntmps28
  have M : Mem ⟨w, [e]⟩ [⟨e, .cells (av 12 (ls [.pointer (some ⟨wd, 0, none⟩), .func (.func 39) #[] #[.pointer (some ⟨md, 0, none⟩)], .int .u64 (rc : Int), .int .u64 (ct : Int), .int .u64 (rk : Int), .int .u64 (lf : Int), .int .i64 (sz : Int), .string sd, .string rv, .bool (fi), .bool (su), .int .u64 (nx : Int)])) 64⟩] w := Mem.startT hL hT
  refine rg_lit ?_
  refine pl_val (want_no rfl) (some 2) rfl (.pointer (some ⟨e, 0, none⟩)) (fun _ => by kernel_rfl) ?_
  refine pl_val (want_no rfl) (some 3) rfl (.pointer (some ⟨e, 0, none⟩)) (fun _ => by kernel_rfl) ?_
  refine pl_val (want_no rfl) (some 4) rfl (.pointer (some ⟨e, 0, none⟩)) (fun _ => by kernel_rfl) ?_
  refine pl_val (want_no rfl) (some 5) rfl (.pointer (some ⟨e, 7, none⟩)) (fun _ => by kernel_rfl) ?_
  refine pl_put1 M (want_no rfl) rfl 9 _ _ rfl 0 e 7 (by kernel_rfl) 12 64 (ls [.pointer (some ⟨wd, 0, none⟩), .func (.func 39) #[] #[.pointer (some ⟨md, 0, none⟩)], .int .u64 (rc : Int), .int .u64 (ct : Int), .int .u64 (rk : Int), .int .u64 (lf : Int), .int .i64 (sz : Int), .string sd, .string rv, .bool (fi), .bool (su), .int .u64 (nx : Int)]) rfl (.string ⟨#[]⟩) (ls [.pointer (some ⟨wd, 0, none⟩), .func (.func 39) #[] #[.pointer (some ⟨md, 0, none⟩)], .int .u64 (rc : Int), .int .u64 (ct : Int), .int .u64 (rk : Int), .int .u64 (lf : Int), .int .i64 (sz : Int), .string ⟨#[]⟩, .string rv, .bool (fi), .bool (su), .int .u64 (nx : Int)]) (by kernel_rfl) inz9 (by decide) rfl rfl (put_ls _ 7 _ _ rfl) ?_
  intro u1 M
  replace M : Mem ⟨w, [e]⟩ [⟨e, .cells (av 12 (ls [.pointer (some ⟨wd, 0, none⟩), .func (.func 39) #[] #[.pointer (some ⟨md, 0, none⟩)], .int .u64 (rc : Int), .int .u64 (ct : Int), .int .u64 (rk : Int), .int .u64 (lf : Int), .int .i64 (sz : Int), .string ⟨#[]⟩, .string rv, .bool (fi), .bool (su), .int .u64 (nx : Int)])) 64⟩] u1 := M
  refine pl_val (want_no rfl) (some 6) rfl (.pointer (some ⟨e, 0, none⟩)) (fun _ => by kernel_rfl) ?_
  refine pl_val (want_no rfl) (some 7) rfl (.pointer (some ⟨e, 8, none⟩)) (fun _ => by kernel_rfl) ?_
  refine pl_put1 M (want_no rfl) rfl 9 _ _ rfl 0 e 8 (by kernel_rfl) 12 64 (ls [.pointer (some ⟨wd, 0, none⟩), .func (.func 39) #[] #[.pointer (some ⟨md, 0, none⟩)], .int .u64 (rc : Int), .int .u64 (ct : Int), .int .u64 (rk : Int), .int .u64 (lf : Int), .int .i64 (sz : Int), .string ⟨#[]⟩, .string rv, .bool (fi), .bool (su), .int .u64 (nx : Int)]) rfl (.string ⟨#[]⟩) (ls [.pointer (some ⟨wd, 0, none⟩), .func (.func 39) #[] #[.pointer (some ⟨md, 0, none⟩)], .int .u64 (rc : Int), .int .u64 (ct : Int), .int .u64 (rk : Int), .int .u64 (lf : Int), .int .i64 (sz : Int), .string ⟨#[]⟩, .string ⟨#[]⟩, .bool (fi), .bool (su), .int .u64 (nx : Int)]) (by kernel_rfl) inz9 (by decide) rfl rfl (put_ls _ 8 _ _ rfl) ?_
  intro u2 M
  replace M : Mem ⟨w, [e]⟩ [⟨e, .cells (av 12 (ls [.pointer (some ⟨wd, 0, none⟩), .func (.func 39) #[] #[.pointer (some ⟨md, 0, none⟩)], .int .u64 (rc : Int), .int .u64 (ct : Int), .int .u64 (rk : Int), .int .u64 (lf : Int), .int .i64 (sz : Int), .string ⟨#[]⟩, .string ⟨#[]⟩, .bool (fi), .bool (su), .int .u64 (nx : Int)])) 64⟩] u2 := M
  refine pl_nil ?_
  exact bodyPost_end (v := .tuple #[]) (results_none Tryd.results28 _ _) (by kernel_rfl) ⟨rfl, M.old, M.get 0 rfl⟩

set_option maxRecDepth 100000 in
set_option maxHeartbeats 4000000 in
set_option linter.unusedSimpArgs false in
theorem c_there {p e : Nat} (w : World) (hL : Laid w)  (hT : There w [⟨p, .cells (av 1 (ls [.pointer (some ⟨e, 0, none⟩)])) 66⟩]) :
    Calls Tryd.prog 23 #[.pointer (some ⟨p, 0, none⟩)] w fun r w' => r = .returned (.bool true) ∧ Below w.heap.size w w' := by
  go_enter Tryd.func23, Tryd.ntmps23
  have M : Mem ⟨w, [p]⟩ [⟨p, .cells (av 1 (ls [.pointer (some ⟨e, 0, none⟩)])) 66⟩] w := Mem.startT hL hT
  refine wp_seq ?_
  refine rg_lit ?_
  refine pl_val (want_no rfl) (some 2) rfl (.bool false) (fun _ => by kernel_rfl) ?_
  refine pl_nil ?_
  refine au_then ?_
  refine wp_seq ?_
  refine rg_lit ?_
  refine pl_val (want_no rfl) (some 3) rfl (.pointer (some ⟨p, 0, none⟩)) (fun _ => by kernel_rfl) ?_
  refine pl_val (want_no rfl) (some 4) rfl (.bool true) (fun _ => by kernel_rfl) ?_
  refine pl_val (want_no rfl) (some 5) rfl (.bool true) (fun _ => by kernel_rfl) ?_
  refine pl_val (want_on 2 true rfl 5 rfl (by kernel_rfl)) (some 6) rfl (.pointer (some ⟨p, 0, none⟩)) (fun _ => by kernel_rfl) ?_
  refine pl_val (want_on 2 true rfl 5 rfl (by kernel_rfl)) (some 7) rfl (.pointer (some ⟨p, 0, none⟩)) (fun _ => by kernel_rfl) ?_
  refine pl_val (want_on 2 true rfl 5 rfl (by kernel_rfl)) (some 8) rfl (.pointer (some ⟨p, 0, none⟩)) (fun _ => by kernel_rfl) ?_
  refine pl_cell M (want_on 2 true rfl 5 rfl (by kernel_rfl)) (some 9) rfl 60 _ rfl p 0 (by kernel_rfl) (.pointer (some ⟨e, 0, none⟩)) (fun _ => by kernel_rfl) (fun w M => M.cell 0 rfl (by decide) rfl) ?_
  refine pl_val (want_on 2 true rfl 5 rfl (by kernel_rfl)) (some 10) rfl (.bool true) (fun _ => by kernel_rfl) ?_
  refine pl_val (want_no rfl) (some 11) rfl (.bool true) (fun _ => by kernel_rfl) ?_
  refine pl_val (want_no rfl) (some 2) rfl (.bool true) (fun _ => by kernel_rfl) ?_
  refine pl_nil ?_
  refine au_then ?_
  refine wp_ret ?_
  exact bodyPost_ret (v := .bool true) (results_tmp1 Tryd.results23 _ _ _ (by kernel_rfl)) (by kernel_rfl) ⟨rfl, ro_T hT M⟩

set_option maxRecDepth 100000 in
set_option maxHeartbeats 4000000 in
set_option linter.unusedSimpArgs false in
theorem n_there  (w : World) (hL : Laid w)  :
    Calls Tryd.prog 23 #[.pointer none] w fun r w' => r = .returned (.bool false) ∧ Below w.heap.size w w' := by
  go_enter Tryd.func23, Tryd.ntmps23
  have M := Mem.start hL
  refine wp_seq ?_
  refine rg_lit ?_
  refine pl_val (want_no rfl) (some 2) rfl (.bool false) (fun _ => by kernel_rfl) ?_
  refine pl_nil ?_
  refine au_then ?_
  refine wp_seq ?_
  refine rg_lit ?_
  refine pl_val (want_no rfl) (some 3) rfl (.pointer none) (fun _ => by kernel_rfl) ?_
  refine pl_val (want_no rfl) (some 4) rfl (.bool false) (fun _ => by kernel_rfl) ?_
  refine pl_val (want_no rfl) (some 5) rfl (.bool false) (fun _ => by kernel_rfl) ?_
  refine pl_skip (want_off 2 true rfl 5 rfl (by kernel_rfl)) (some 6) rfl ?_
  refine pl_skip (want_off 2 true rfl 5 rfl (by kernel_rfl)) (some 7) rfl ?_
  refine pl_skip (want_off 2 true rfl 5 rfl (by kernel_rfl)) (some 8) rfl ?_
  refine pl_skip (want_off 2 true rfl 5 rfl (by kernel_rfl)) (some 9) rfl ?_
  refine pl_skip (want_off 2 true rfl 5 rfl (by kernel_rfl)) (some 10) rfl ?_
  refine pl_val (want_no rfl) (some 11) rfl (.bool false) (fun _ => by kernel_rfl) ?_
  refine pl_val (want_no rfl) (some 2) rfl (.bool false) (fun _ => by kernel_rfl) ?_
  refine pl_nil ?_
  refine au_then ?_
  refine wp_ret ?_
  exact bodyPost_ret (v := .bool false) (results_tmp1 Tryd.results23 _ _ _ (by kernel_rfl)) (by kernel_rfl) ⟨rfl, below_grown M.old⟩


end Go.Proofs.YtenafinbaanicaaDoor
