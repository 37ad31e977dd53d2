/- Part 6 of the walks and facts. -/
import Derived.Test.YtiahdbibeleakaaGreatDoorCt5
set_option maxHeartbeats 16000000
set_option maxRecDepth 100000
set_option linter.unusedSimpArgs false
set_option linter.unusedVariables false
namespace Go.Proofs.YtiahdbibeleakaaGreatDoor
open Go.RowKit
theorem wrapU_suc (a : Nat) (h : a + 1 < 18446744073709551616) : IntKind.wrap .u64 ((a : Int) + 1) = ((a + 1 : Nat) : Int) := by
 rw [IntKind.wrap_u64]
 omega
def slZ (sd : Yb) (nx : Nat) (s : Yb) : Int := sf sd (nS (nx : Int)) ⟨#[]⟩ s 0
def slN (sd : Yb) (nx : Nat) (s : Yb) : Nat := if slZ sd nx s = 0 then nx else 0
def slC (sd : Yb) (nx : Nat) (s : Yb) : ByteArray := if slZ sd nx s = 0 then sealS sd (nS (nx : Int)) ⟨#[]⟩ s else ⟨#[]⟩
def slX (sd : Yb) (nx : Nat) (s : Yb) : Nat := if slZ sd nx s = 0 then nx + 1 else nx
def opZ (rv : Yb) (i : Nat) (c : Yb) : Int := if sf rv (nS (i : Int)) ⟨#[]⟩ c 16 = 0 then (if tgX rv (nS (i : Int)) ⟨#[]⟩ c = c.extract (c.size - 16) c.size then 0 else 100) else sf rv (nS (i : Int)) ⟨#[]⟩ c 16
def opC (rv : Yb) (i : Nat) (c : Yb) : ByteArray := if opZ rv i c = 0 then opS rv (nS (i : Int)) c else ⟨#[]⟩
def opU (su : Bool) (rv : Yb) (i : Nat) (c : Yb) : Bool := if opZ rv i c = 0 then true else su
def opQ (sz : Nat) (q : List Nat) (rv : Yb) (i : Nat) (c : Yb) : List Nat := if opZ rv i c = 0 then mk sz q i else q
def opF (sd : Yb) (ct lf sz mt : Nat) (q : List Nat) (n i : Nat) : Int := if ovB sd lf mt n = true then 180 else if ct ≤ i then 180 else my sz q i
theorem c_ASeal (sd : Yb) (nx : Nat) (s : Yb) (w : World) (hL : Laid w) : Cs 46 #[.string sd, .string (nS (nx : Int)), .string ⟨#[]⟩, .string s] w (.tuple #[.string (slC sd nx s), .int .i64 (slZ sd nx s)]) := by
 by_cases h : slZ sd nx s = 0
 ·unfold slC
  rw [if_pos h, h]
  exact c_SealA _ _ _ _ h w hL
 ·unfold slC
  rw [if_neg h]
  exact c_SealB _ _ _ _ h w hL
theorem c_AOpen (rv : Yb) (i : Nat) (c : Yb) (w : World) (hL : Laid w) : Cs 49 #[.string rv, .string (nS (i : Int)), .string ⟨#[]⟩, .string c] w (.tuple #[.string (opC rv i c), .int .i64 (opZ rv i c)]) := by
 unfold opC
 by_cases h : sf rv (nS (i : Int)) ⟨#[]⟩ c 16 = 0
 ·by_cases h2 : tgX rv (nS (i : Int)) ⟨#[]⟩ c = c.extract (c.size - 16) c.size
  ·have e : opZ rv i c = 0 := by unfold opZ; rw [if_pos h, if_pos h2]
   rw [if_pos e, e]
   exact c_OpenA _ _ _ _ h h2 w hL
  ·have e : opZ rv i c = 100 := by unfold opZ; rw [if_pos h, if_neg h2]
   rw [if_neg (by rw [e]; decide), e]
   exact c_OpenB _ _ _ _ h h2 w hL
 ·have e : opZ rv i c = sf rv (nS (i : Int)) ⟨#[]⟩ c 16 := by unfold opZ; rw [if_neg h]
  rw [if_neg (by rw [e]; exact h), e]
  exact c_OpenC _ _ _ _ h w hL
theorem c_tseal {e wd md : Nat} {rc ct rk lf sz nx : Nat} {sd rv : Yb} {fi su : Bool} {s : Yb} (hx : nx + 1 < 18446744073709551616) (w : World) (hL : Laid w)  (hT : There w [⟨e, .cells (av 12 (ls [.pointer (some ⟨wd, 0, none⟩), .func (.func 67) #[] #[.pointer (some ⟨md, 0, none⟩)], .int .u64 (rc : Int), .int .u64 (ct : Int), .int .u64 (rk : Int), .int .u64 (lf : Int), .int .i64 (sz : Int), .string sd, .string rv, .bool (fi), .bool (su), .int .u64 (nx : Int)])) 78⟩]) : Calls Tryz.prog 23 #[.pointer (some ⟨e, 0, none⟩), .string s] w fun r w' => r = .returned (.tuple #[.int .u64 ((slN sd nx s : Nat) : Int), .string (slC sd nx s), .int .i64 (slZ sd nx s)]) ∧ Grw w w' [e] ∧ w'.heap[e]? = some (.cells (av 12 (ls [.pointer (some ⟨wd, 0, none⟩), .func (.func 67) #[] #[.pointer (some ⟨md, 0, none⟩)], .int .u64 (rc : Int), .int .u64 (ct : Int), .int .u64 (rk : Int), .int .u64 (lf : Int), .int .i64 (sz : Int), .string sd, .string rv, .bool (fi), .bool (su), .int .u64 ((slX sd nx s : Nat) : Int)])) 78) := by
 go_enter Tryz.func23, Tryz.ntmps23
 have M : Mem ⟨w, [e]⟩ [⟨e, .cells (av 12 (ls [.pointer (some ⟨wd, 0, none⟩), .func (.func 67) #[] #[.pointer (some ⟨md, 0, none⟩)], .int .u64 (rc : Int), .int .u64 (ct : Int), .int .u64 (rk : Int), .int .u64 (lf : Int), .int .i64 (sz : Int), .string sd, .string rv, .bool (fi), .bool (su), .int .u64 (nx : Int)])) 78⟩] w := Mem.startT hL hT
 refine sq <| sR <| rV 3 <| ZE M 13 0 11 <| rV 1 ?_
 refine nT <| wp_seq ?_
 refine rg_held M [⟨e, .cells (av 12 (ls [.pointer (some ⟨wd, 0, none⟩), .func (.func 67) #[] #[.pointer (some ⟨md, 0, none⟩)], .int .u64 (rc : Int), .int .u64 (ct : Int), .int .u64 (rk : Int), .int .u64 (lf : Int), .int .i64 (sz : Int), .string sd, .string rv, .bool (fi), .bool (su), .int .u64 (nx : Int)])) 78⟩] 12 rfl (by kernel_rfl) (by kernel_rfl) (fun _ _ d _ _ h => by cases d <;> exact h) fun u1 M => ?_
 replace M : Mem ⟨w, [e]⟩ [⟨e, .cells (av 12 (ls [.pointer (some ⟨wd, 0, none⟩), .func (.func 67) #[] #[.pointer (some ⟨md, 0, none⟩)], .int .u64 (rc : Int), .int .u64 (ct : Int), .int .u64 (rk : Int), .int .u64 (lf : Int), .int .i64 (sz : Int), .string sd, .string rv, .bool (fi), .bool (su), .int .u64 (nx : Int)])) 78⟩] u1 := M
 refine qV M 0 15 (.pointer (some ⟨e, 0, none⟩)) ?_
 refine qV M 1 16 (.pointer (some ⟨e, 0, none⟩)) ?_
 refine qV M 2 17 (.pointer (some ⟨e, 7, none⟩)) ?_
 refine hl_cell M 3 rfl (by decide) (by kernel_rfl) (by kernel_rfl) (want_no rfl) (some 18) rfl 9 _ rfl e 7 (by kernel_rfl) (.string sd) (fun _ => by kernel_rfl) (fun w M => M.cell 0 rfl (by decide) rfl) ?_
 refine qV M 4 19 (.int .u64 (nx : Int)) ?_
 refine qV M 6 21 (.string s) ?_
 refine hl_one 5 (by decide) (by kernel_rfl) rfl ?_
 refine ZC M 20 (fun w M => c_Nonce (nx : Int) w M.laid) fun u2 M => ?_
 refine nT ?_
 refine ⟨M, ?_⟩
 refine hl_one 7 (by decide) (by kernel_rfl) rfl ?_
 refine ZC M 22 (fun w M => c_ASeal sd nx s w M.laid) fun u3 M => ?_
 refine nT ?_
 refine ⟨M, ?_⟩
 refine qV M 8 14 (.tuple #[.string (slC sd nx s), .int .i64 (slZ sd nx s)]) ?_
 refine qV M 9 23 (.string (slC sd nx s)) ?_
 refine qV M 10 24 (.int .i64 (slZ sd nx s)) ?_
 refine qV M 11 8 (.string (slC sd nx s)) ?_
 refine hl_end (by kernel_rfl) (by kernel_rfl) rfl ?_
 refine rV 1 <| nT <| au_then <| wp_seq <| sR ?_
 refine rV 1 ?_
 by_cases c0 : (slZ sd nx s) = 0
 ·refine pH 26 (.bool false) (jD ((slZ sd nx s) = 0) (c0)) ?_
  refine nT <| cF <| wp_skip <| au_then <| sR ?_
  refine rV 3 <| ZE M 31 0 11 ?_
  refine pH 32 (.int .u64 ((nx + 1 : Nat) : Int)) (fun w => Eq.trans (b := .ok (.value (.int .u64 (IntKind.wrap .u64 (((nx : Nat) : Int) + 1)))) w) (by kernel_rfl) (by rw [wrapU_suc nx (by omega)])) ?_
  refine rV 2 ?_
  refine pP M 0 rfl 11 (.int .u64 ((nx + 1 : Nat) : Int)) (ls [.pointer (some ⟨wd, 0, none⟩), .func (.func 67) #[] #[.pointer (some ⟨md, 0, none⟩)], .int .u64 (rc : Int), .int .u64 (ct : Int), .int .u64 (rk : Int), .int .u64 (lf : Int), .int .i64 (sz : Int), .string sd, .string rv, .bool (fi), .bool (su), .int .u64 ((nx + 1 : Nat) : Int)]) (by decide) (put_ls _ 11 _ _ rfl) fun u4 M => ?_
  replace M : Mem ⟨w, [e]⟩ [⟨e, .cells (av 12 (ls [.pointer (some ⟨wd, 0, none⟩), .func (.func 67) #[] #[.pointer (some ⟨md, 0, none⟩)], .int .u64 (rc : Int), .int .u64 (ct : Int), .int .u64 (rk : Int), .int .u64 (lf : Int), .int .i64 (sz : Int), .string sd, .string rv, .bool (fi), .bool (su), .int .u64 ((nx + 1 : Nat) : Int)])) 78⟩] u4 := M
  refine nT <| sq <| wp_ret ?_
  have e0 : slN sd nx s = nx := by unfold slN; rw [if_pos c0]
  have e1 : slX sd nx s = nx + 1 := by unfold slX; rw [if_pos c0]
  have e2 : slC sd nx s = sealS sd (nS (nx : Int)) ⟨#[]⟩ s := by unfold slC; rw [if_pos c0]
  exact bodyPost_ret (v := .tuple #[.int .u64 (nx : Int), .string (slC sd nx s), .int .i64 0]) (results_t3 Tryz.results23 _ _ _ _ _ (by kernel_rfl) (by kernel_rfl) (by kernel_rfl)) (by kernel_rfl) ⟨by rw [e0, c0], M.old, by rw [e1]; exact M.get 0 rfl⟩
 ·refine pH 26 (.bool true) (jU ((slZ sd nx s) = 0) (c0)) ?_
  refine nT <| cT <| sq <| wp_ret <| au_then_ret ?_
  have e0 : slN sd nx s = 0 := by unfold slN; rw [if_neg c0]
  have e1 : slX sd nx s = nx := by unfold slX; rw [if_neg c0]
  have e2 : slC sd nx s = ⟨#[]⟩ := by unfold slC; rw [if_neg c0]
  exact bodyPost_ret (v := .tuple #[.int .u64 0, .string ⟨#[]⟩, .int .i64 (slZ sd nx s)]) (results_t3 Tryz.results23 _ _ _ _ _ (by kernel_rfl) (by kernel_rfl) (by kernel_rfl)) (by kernel_rfl) ⟨by rw [e0, e2]; rfl, M.old, by rw [e1]; exact M.get 0 rfl⟩
theorem c_openFault {e wd k md : Nat} {rc ct rk lf sz nx mt : Nat} {sd rv : Yb} {fi su : Bool} {h : Nat} {m : NI} {q : List Nat} {n i : Nat} (hs : 1 ≤ sz) (hh : h < 18446744073709551616) (I : Inv sz h m q) (hn : n < 18446744073709551616) (hi : i < 18446744073709551616) (w : World) (hL : Laid w)  (hT : There w [⟨e, .cells (av 12 (ls [.pointer (some ⟨wd, 0, none⟩), .func (.func 67) #[] #[.pointer (some ⟨md, 0, none⟩)], .int .u64 (rc : Int), .int .u64 (ct : Int), .int .u64 (rk : Int), .int .u64 (lf : Int), .int .i64 (sz : Int), .string sd, .string rv, .bool (fi), .bool (su), .int .u64 (nx : Int)])) 78⟩, ⟨wd, .cells (av 3 (ls [.int .u64 (sz : Int), .int .u64 (h : Int), .slice (some ⟨k, 0, none⟩) (nW sz) (nW sz)])) 123⟩, ⟨k, .cells (av (nW sz) (w64 m)) 33⟩, ⟨md, .cells (av 1 (ls [.int .u64 (mt : Int)])) 33⟩]) : Cs 24 #[.pointer (some ⟨e, 0, none⟩), .int .u64 (n : Int), .int .u64 (i : Int)] w (.int .i64 (opF sd ct lf sz mt q n i)) := by
 go_enter Tryz.func24, Tryz.ntmps24
 have M : Mem ⟨w, [e, wd, k, md]⟩ [⟨e, .cells (av 12 (ls [.pointer (some ⟨wd, 0, none⟩), .func (.func 67) #[] #[.pointer (some ⟨md, 0, none⟩)], .int .u64 (rc : Int), .int .u64 (ct : Int), .int .u64 (rk : Int), .int .u64 (lf : Int), .int .i64 (sz : Int), .string sd, .string rv, .bool (fi), .bool (su), .int .u64 (nx : Int)])) 78⟩, ⟨wd, .cells (av 3 (ls [.int .u64 (sz : Int), .int .u64 (h : Int), .slice (some ⟨k, 0, none⟩) (nW sz) (nW sz)])) 123⟩, ⟨k, .cells (av (nW sz) (w64 m)) 33⟩, ⟨md, .cells (av 1 (ls [.int .u64 (mt : Int)])) 33⟩] w := Mem.startT hL hT
 refine sq <| wp_seq <| sR <| rV 2 ?_
 rcases Bool.eq_false_or_eq_true (ovB sd lf mt n) with c0 | c0
 ·refine pC M 9 44 #[.pointer (some ⟨e, 0, none⟩), .int .u64 (n : Int)] (.bool true) (fun w M => call_val (c_over hn w M.laid (M.there (.cons_cons _ (.cons _ (.cons _ (.cons_cons _ (List.nil_sublist _))))))) (congrArg Value.bool c0)) fun u1 M => ?_
  refine rV 9 <| nT <| cT <| sq <| wp_ret ?_
  refine au_then_ret ?_
  have e0 : (opF sd ct lf sz mt q n i) = 180 := by unfold opF; rw [if_pos c0]
  exact bodyPost_ret (v := .int .i64 180) (results_tmp1 Tryz.results24 _ _ _ (by kernel_rfl)) (by kernel_rfl) ⟨by rw [e0], ro_T hT M⟩
 ·refine pC M 9 44 #[.pointer (some ⟨e, 0, none⟩), .int .u64 (n : Int)] (.bool false) (fun w M => call_val (c_over hn w M.laid (M.there (.cons_cons _ (.cons _ (.cons _ (.cons_cons _ (List.nil_sublist _))))))) (congrArg Value.bool c0)) fun u1 M => ?_
  refine rV 6 ?_
  refine pl_cell M (want_on 3 false rfl 10 rfl (by kernel_rfl)) (some 16) rfl 33 _ rfl e 3 (by kernel_rfl) (.int .u64 (ct : Int)) (fun _ => by kernel_rfl) (fun w M => M.cell 0 rfl (by decide) rfl) ?_
  by_cases c1 : (i : Int) < (ct : Int)
  ·refine pl_val (want_on 3 false rfl 10 rfl (by kernel_rfl)) (some 17) rfl (.bool false) (fun w => Eq.trans (b := .ok (.value (.bool (decide ((ct : Int) ≤ (i : Int))))) w) (by kernel_rfl) (by rw [decide_eq_false (by omega)])) ?_
   refine rV 1 <| nT <| cF <| wp_skip <| au_then ?_
   refine sR <| rV 3 <| ZE M 22 0 0 <| rV 1 ?_
   refine pC M 24 48 #[.pointer (some ⟨wd, 0, none⟩), .int .u64 (i : Int)] (.int .i64 (my sz q i)) (fun w M => a_May hs hh hi I w M.laid (M.there (.cons _ (.cons_cons _ (.cons_cons _ (List.nil_sublist _)))))) fun u2 M => ?_
   refine rV 1 <| nT <| wp_ret ?_
   have e0 : (opF sd ct lf sz mt q n i) = (my sz q i) := by unfold opF; rw [if_neg (Bool.eq_false_iff.1 c0), if_neg (by omega)]
   exact bodyPost_ret (v := .int .i64 (my sz q i)) (results_tmp1 Tryz.results24 _ _ _ (by kernel_rfl)) (by kernel_rfl) ⟨by rw [e0], ro_T hT M⟩
  ·refine pl_val (want_on 3 false rfl 10 rfl (by kernel_rfl)) (some 17) rfl (.bool true) (fun w => Eq.trans (b := .ok (.value (.bool (decide ((ct : Int) ≤ (i : Int))))) w) (by kernel_rfl) (by rw [decide_eq_true (by omega)])) ?_
   refine rV 1 <| nT <| cT <| sq <| wp_ret ?_
   refine au_then_ret ?_
   have e0 : (opF sd ct lf sz mt q n i) = 180 := by unfold opF; rw [if_neg (Bool.eq_false_iff.1 c0), if_pos (by omega)]
   exact bodyPost_ret (v := .int .i64 180) (results_tmp1 Tryz.results24 _ _ _ (by kernel_rfl)) (by kernel_rfl) ⟨by rw [e0], ro_T hT M⟩
theorem c_topen {e wd k md : Nat} {rc ct rk lf sz nx : Nat} {sd rv : Yb} {fi su : Bool} {h : Nat} {m : NI} {q : List Nat} {i : Nat} {c : Yb} (hs : 1 ≤ sz) (hh : h < 18446744073709551616) (I : Inv sz h m q) (hi : i < 18446744073709551616) (w : World) (hL : Laid w)  (hT : There w [⟨e, .cells (av 12 (ls [.pointer (some ⟨wd, 0, none⟩), .func (.func 67) #[] #[.pointer (some ⟨md, 0, none⟩)], .int .u64 (rc : Int), .int .u64 (ct : Int), .int .u64 (rk : Int), .int .u64 (lf : Int), .int .i64 (sz : Int), .string sd, .string rv, .bool (fi), .bool (su), .int .u64 (nx : Int)])) 78⟩, ⟨wd, .cells (av 3 (ls [.int .u64 (sz : Int), .int .u64 (h : Int), .slice (some ⟨k, 0, none⟩) (nW sz) (nW sz)])) 123⟩, ⟨k, .cells (av (nW sz) (w64 m)) 33⟩]) : Calls Tryz.prog 25 #[.pointer (some ⟨e, 0, none⟩), .int .u64 (i : Int), .string c] w fun r w' => ∃ x : Nat × (Nat → Int), r = .returned (.tuple #[.string (opC rv i c), .int .i64 (opZ rv i c)]) ∧ (Inv sz x.1 x.2 (opQ sz q rv i c) ∧ x.1 < 18446744073709551616) ∧ OkT w w' [⟨e, .cells (av 12 (ls [.pointer (some ⟨wd, 0, none⟩), .func (.func 67) #[] #[.pointer (some ⟨md, 0, none⟩)], .int .u64 (rc : Int), .int .u64 (ct : Int), .int .u64 (rk : Int), .int .u64 (lf : Int), .int .i64 (sz : Int), .string sd, .string rv, .bool (fi), .bool (su), .int .u64 (nx : Int)])) 78⟩, ⟨wd, .cells (av 3 (ls [.int .u64 (sz : Int), .int .u64 ((h : Int)), .slice (some ⟨k, 0, none⟩) (nW sz) (nW sz)])) 123⟩, ⟨k, .cells (av (nW sz) (w64 m)) 33⟩] [⟨e, .cells (av 12 (ls [.pointer (some ⟨wd, 0, none⟩), .func (.func 67) #[] #[.pointer (some ⟨md, 0, none⟩)], .int .u64 (rc : Int), .int .u64 (ct : Int), .int .u64 (rk : Int), .int .u64 (lf : Int), .int .i64 (sz : Int), .string sd, .string rv, .bool (fi), .bool (opU su rv i c), .int .u64 (nx : Int)])) 78⟩, ⟨wd, .cells (av 3 (ls [.int .u64 (sz : Int), .int .u64 (((x.1 : Nat) : Int)), .slice (some ⟨k, 0, none⟩) (nW sz) (nW sz)])) 123⟩, ⟨k, .cells (av (nW sz) (w64 x.2)) 33⟩] := by
 go_enter Tryz.func25, Tryz.ntmps25
 have M : Mem ⟨w, [e, wd, k]⟩ [⟨e, .cells (av 12 (ls [.pointer (some ⟨wd, 0, none⟩), .func (.func 67) #[] #[.pointer (some ⟨md, 0, none⟩)], .int .u64 (rc : Int), .int .u64 (ct : Int), .int .u64 (rk : Int), .int .u64 (lf : Int), .int .i64 (sz : Int), .string sd, .string rv, .bool (fi), .bool (su), .int .u64 (nx : Int)])) 78⟩, ⟨wd, .cells (av 3 (ls [.int .u64 (sz : Int), .int .u64 (h : Int), .slice (some ⟨k, 0, none⟩) (nW sz) (nW sz)])) 123⟩, ⟨k, .cells (av (nW sz) (w64 m)) 33⟩] w := Mem.startT hL hT
 refine sq <| wp_seq ?_
 refine rg_held M [⟨e, .cells (av 12 (ls [.pointer (some ⟨wd, 0, none⟩), .func (.func 67) #[] #[.pointer (some ⟨md, 0, none⟩)], .int .u64 (rc : Int), .int .u64 (ct : Int), .int .u64 (rk : Int), .int .u64 (lf : Int), .int .i64 (sz : Int), .string sd, .string rv, .bool (fi), .bool (su), .int .u64 (nx : Int)])) 78⟩, ⟨wd, .cells (av 3 (ls [.int .u64 (sz : Int), .int .u64 (h : Int), .slice (some ⟨k, 0, none⟩) (nW sz) (nW sz)])) 123⟩, ⟨k, .cells (av (nW sz) (w64 m)) 33⟩] 12 rfl (by kernel_rfl) (by kernel_rfl) (fun _ _ d _ _ h => by cases d <;> exact h) fun u1 M => ?_
 replace M : Mem ⟨w, [e, wd, k]⟩ [⟨e, .cells (av 12 (ls [.pointer (some ⟨wd, 0, none⟩), .func (.func 67) #[] #[.pointer (some ⟨md, 0, none⟩)], .int .u64 (rc : Int), .int .u64 (ct : Int), .int .u64 (rk : Int), .int .u64 (lf : Int), .int .i64 (sz : Int), .string sd, .string rv, .bool (fi), .bool (su), .int .u64 (nx : Int)])) 78⟩, ⟨wd, .cells (av 3 (ls [.int .u64 (sz : Int), .int .u64 (h : Int), .slice (some ⟨k, 0, none⟩) (nW sz) (nW sz)])) 123⟩, ⟨k, .cells (av (nW sz) (w64 m)) 33⟩] u1 := M
 refine qV M 0 11 (.pointer (some ⟨e, 0, none⟩)) ?_
 refine qV M 1 12 (.pointer (some ⟨e, 0, none⟩)) ?_
 refine qV M 2 13 (.pointer (some ⟨e, 8, none⟩)) ?_
 refine hl_cell M 3 rfl (by decide) (by kernel_rfl) (by kernel_rfl) (want_no rfl) (some 14) rfl 9 _ rfl e 8 (by kernel_rfl) (.string rv) (fun _ => by kernel_rfl) (fun w M => M.cell 0 rfl (by decide) rfl) ?_
 refine qV M 4 15 (.int .u64 (i : Int)) ?_
 refine qV M 6 17 (.string c) ?_
 refine hl_one 5 (by decide) (by kernel_rfl) rfl ?_
 refine ZC M 16 (fun w M => c_Nonce (i : Int) w M.laid) fun u2 M => ?_
 refine nT ?_
 refine ⟨M, ?_⟩
 refine hl_one 7 (by decide) (by kernel_rfl) rfl ?_
 refine ZC M 18 (fun w M => c_AOpen rv i c w M.laid) fun u3 M => ?_
 refine nT ?_
 refine ⟨M, ?_⟩
 refine qV M 8 10 (.tuple #[.string (opC rv i c), .int .i64 (opZ rv i c)]) ?_
 refine qV M 9 19 (.string (opC rv i c)) ?_
 refine qV M 10 20 (.int .i64 (opZ rv i c)) ?_
 refine qV M 11 8 (.string (opC rv i c)) ?_
 refine hl_end (by kernel_rfl) (by kernel_rfl) rfl ?_
 refine rV 1 <| nT <| au_then <| wp_seq <| sR ?_
 refine rV 1 ?_
 by_cases c0 : (opZ rv i c) = 0
 ·refine pH 22 (.bool false) (jD ((opZ rv i c) = 0) (c0)) ?_
  refine nT <| cF <| wp_skip <| au_then <| sR ?_
  refine rV 3 <| ZE M 27 0 0 <| rV 1 ?_
  refine pl_callM M (want_no rfl) (some 29) rfl 50 #[.pointer (some ⟨wd, 0, none⟩), .int .u64 (i : Int)] [⟨e, .cells (av 12 (ls [.pointer (some ⟨wd, 0, none⟩), .func (.func 67) #[] #[.pointer (some ⟨md, 0, none⟩)], .int .u64 (rc : Int), .int .u64 (ct : Int), .int .u64 (rk : Int), .int .u64 (lf : Int), .int .i64 (sz : Int), .string sd, .string rv, .bool (fi), .bool (su), .int .u64 (nx : Int)])) 78⟩] [⟨wd, .cells (av 3 (ls [.int .u64 (sz : Int), .int .u64 (h : Int), .slice (some ⟨k, 0, none⟩) (nW sz) (nW sz)])) 123⟩, ⟨k, .cells (av (nW sz) (w64 m)) 33⟩] [] (by simp only [List.append_assoc, List.cons_append, List.nil_append, List.append_nil]) (fun x : Nat × (Nat → Int) => .int .i64 (my sz q i)) (fun x : Nat × (Nat → Int) => [⟨wd, .cells (av 3 (ls [.int .u64 (sz : Int), .int .u64 ((x.1 : Nat) : Int), .slice (some ⟨k, 0, none⟩) (nW sz) (nW sz)])) 123⟩, ⟨k, .cells (av (nW sz) (w64 x.2)) 33⟩]) (fun x : Nat × (Nat → Int) => Inv sz x.1 x.2 (mk sz q i) ∧ x.1 < 18446744073709551616) (fun _ => by kernel_rfl) (fun w hL hT => a_Mark hs hh hi I w hL hT) ?_
  rintro ⟨h2, m2⟩ u4 ⟨I2, hh2⟩ M
  replace M : Mem ⟨w, [e, wd, k]⟩ [⟨e, .cells (av 12 (ls [.pointer (some ⟨wd, 0, none⟩), .func (.func 67) #[] #[.pointer (some ⟨md, 0, none⟩)], .int .u64 (rc : Int), .int .u64 (ct : Int), .int .u64 (rk : Int), .int .u64 (lf : Int), .int .i64 (sz : Int), .string sd, .string rv, .bool (fi), .bool (su), .int .u64 (nx : Int)])) 78⟩, ⟨wd, .cells (av 3 (ls [.int .u64 (sz : Int), .int .u64 (h2 : Int), .slice (some ⟨k, 0, none⟩) (nW sz) (nW sz)])) 123⟩, ⟨k, .cells (av (nW sz) (w64 m2)) 33⟩] u4 := by simpa only [List.append_assoc, List.cons_append, List.nil_append, List.append_nil] using M
  refine nT <| sR <| rV 3 ?_
  refine pP M 0 rfl 10 (.bool true) (ls [.pointer (some ⟨wd, 0, none⟩), .func (.func 67) #[] #[.pointer (some ⟨md, 0, none⟩)], .int .u64 (rc : Int), .int .u64 (ct : Int), .int .u64 (rk : Int), .int .u64 (lf : Int), .int .i64 (sz : Int), .string sd, .string rv, .bool (fi), .bool true, .int .u64 (nx : Int)]) (by decide) (put_ls _ 10 _ _ rfl) fun u5 M => ?_
  replace M : Mem ⟨w, [e, wd, k]⟩ [⟨e, .cells (av 12 (ls [.pointer (some ⟨wd, 0, none⟩), .func (.func 67) #[] #[.pointer (some ⟨md, 0, none⟩)], .int .u64 (rc : Int), .int .u64 (ct : Int), .int .u64 (rk : Int), .int .u64 (lf : Int), .int .i64 (sz : Int), .string sd, .string rv, .bool (fi), .bool true, .int .u64 (nx : Int)])) 78⟩, ⟨wd, .cells (av 3 (ls [.int .u64 (sz : Int), .int .u64 (h2 : Int), .slice (some ⟨k, 0, none⟩) (nW sz) (nW sz)])) 123⟩, ⟨k, .cells (av (nW sz) (w64 m2)) 33⟩] u5 := M
  refine nT <| sq <| wp_ret ?_
  have e1 : opU su rv i c = true := by unfold opU; rw [if_pos c0]
  have e2 : opQ sz q rv i c = mk sz q i := by unfold opQ; rw [if_pos c0]
  exact bodyPost_ret (v := .tuple #[.string (opC rv i c), .int .i64 0]) (results_tmp2 Tryz.results25 _ _ _ _ (by kernel_rfl) (by kernel_rfl)) (by kernel_rfl) ⟨(h2, m2), by rw [c0], by rw [e2]; exact ⟨I2, hh2⟩, by rw [e1]; exact Mem.okT0 (T := [⟨e, _⟩, ⟨wd, _⟩, ⟨k, _⟩]) M⟩
 ·refine pH 22 (.bool true) (jU ((opZ rv i c) = 0) (c0)) ?_
  refine nT <| cT <| sq <| wp_ret <| au_then_ret ?_
  have e1 : opU su rv i c = su := by unfold opU; rw [if_neg c0]
  have e2 : opQ sz q rv i c = q := by unfold opQ; rw [if_neg c0]
  have e3 : opC rv i c = ⟨#[]⟩ := by unfold opC; rw [if_neg c0]
  exact bodyPost_ret (v := .tuple #[.string ⟨#[]⟩, .int .i64 (opZ rv i c)]) (results_tmp2 Tryz.results25 _ _ _ _ (by kernel_rfl) (by kernel_rfl)) (by kernel_rfl) ⟨(h, m), by rw [e3], by rw [e2]; exact ⟨I, hh⟩, by rw [e1]; exact Mem.okT0 (T := [⟨e, _⟩, ⟨wd, _⟩, ⟨k, _⟩]) M⟩
theorem c_there {p e : Nat} (w : World) (hL : Laid w)  (hT : There w [⟨p, .cells (av 1 (ls [.pointer (some ⟨e, 0, none⟩)])) 72⟩]) : Cs 21 #[.pointer (some ⟨p, 0, none⟩)] w (.bool true) := by
 go_enter Tryz.func21, Tryz.ntmps21
 have M : Mem ⟨w, [p]⟩ [⟨p, .cells (av 1 (ls [.pointer (some ⟨e, 0, none⟩)])) 72⟩] w := Mem.startT hL hT
 refine sq <| sR <| rV 6 ?_
 refine pl_cell M (want_on 2 true rfl 5 rfl (by kernel_rfl)) (some 9) rfl 70 _ rfl p 0 (by kernel_rfl) (.pointer (some ⟨e, 0, none⟩)) (fun _ => by kernel_rfl) (fun w M => M.cell 0 rfl (by decide) rfl) ?_
 refine rV 3 <| nT <| wp_ret ?_
 exact bodyPost_ret (v := .bool true) (results_tmp1 Tryz.results21 _ _ _ (by kernel_rfl)) (by kernel_rfl) ⟨rfl, ro_T hT M⟩
open Go.RowKit
structure TS where
 rc : Nat
 ct : Nat
 rk : Nat
 lf : Nat
 sz : Nat
 nx : Nat
 mt : Nat
 sd : ByteArray
 rv : ByteArray
 fi : Bool
 su : Bool
 q : List Nat
def tB (x : TS) (p e wd k md h : Nat) (m : NI) : List Blk := [⟨p, .cells (av 1 (ls [.pointer (some ⟨e, 0, none⟩)])) 72⟩, ⟨e, .cells (av 12 (ls [.pointer (some ⟨wd, 0, none⟩), .func (.func 67) #[] #[.pointer (some ⟨md, 0, none⟩)], .int .u64 ((x.rc : Nat) : Int), .int .u64 ((x.ct : Nat) : Int), .int .u64 ((x.rk : Nat) : Int), .int .u64 ((x.lf : Nat) : Int), .int .i64 ((x.sz : Nat) : Int), .string x.sd, .string x.rv, .bool (x.fi), .bool (x.su), .int .u64 ((x.nx : Nat) : Int)])) 78⟩, ⟨wd, .cells (av 3 (ls [.int .u64 ((x.sz : Nat) : Int), .int .u64 (h : Int), .slice (some ⟨k, 0, none⟩) (nW x.sz) (nW x.sz)])) 123⟩, ⟨k, .cells (av (nW x.sz) (w64 m)) 33⟩, ⟨md, .cells (av 1 (ls [.int .u64 ((x.mt : Nat) : Int)])) 33⟩]
structure IsT (p : Nat) (x : TS) (T : List Blk) : Prop where
 out : ∃ e wd k md h m, T = tB x p e wd k md h m ∧ Inv x.sz h m x.q ∧ h < 18446744073709551616
structure TS.Ok (x : TS) : Prop where
 s1 : 1 ≤ x.sz
 s2 : x.sz ≤ 4096
 c : x.ct ≤ 1152921504606846976
 n : x.nx ≤ x.ct
def TS.ov (x : TS) (n : Nat) : Bool := ovB x.sd x.lf x.mt n
def TS.sF (x : TS) (n : Nat) : Int := slF x.sd x.su x.ct x.lf x.nx x.mt n
def TS.sE (x : TS) (n : Nat) (s : Yb) : Int := if x.sF n = 0 then slZ x.sd x.nx s else x.sF n
def TS.sN (x : TS) (n : Nat) (s : Yb) : Nat := if x.sF n = 0 then slN x.sd x.nx s else 0
def TS.sC (x : TS) (n : Nat) (s : Yb) : ByteArray := if x.sF n = 0 then slC x.sd x.nx s else ⟨#[]⟩
def TS.sX (x : TS) (n : Nat) (s : Yb) : TS := if x.sF n = 0 then { x with nx := slX x.sd x.nx s } else x
def TS.oF (x : TS) (n i : Nat) : Int := opF x.sd x.ct x.lf x.sz x.mt x.q n i
def TS.oE (x : TS) (n i : Nat) (c : Yb) : Int := if x.oF n i = 0 then opZ x.rv i c else x.oF n i
def TS.oC (x : TS) (n i : Nat) (c : Yb) : ByteArray := if x.oF n i = 0 then opC x.rv i c else ⟨#[]⟩
def TS.oX (x : TS) (n i : Nat) (c : Yb) : TS := if x.oF n i = 0 then { x with su := opU x.su x.rv i c, q := opQ x.sz x.q x.rv i c } else x
def mbB (rc ct rk lf : Nat) : Bool := decide (1 ≤ rc ∧ rc ≤ ct ∧ ct ≤ 1152921504606846976 ∧ 1 ≤ rk ∧ rk ≤ lf ∧ lf ≤ 1152921504606846976)
theorem c_mayBe {rc ct rk lf : Nat} {z : Int} (w : World) (hL : Laid w)  : Cs 41 #[.agg (av 5 (ls [.int .u64 (rc : Int), .int .u64 (ct : Int), .int .u64 (rk : Int), .int .u64 (lf : Int), .int .i64 z]))] w (.bool (mbB rc ct rk lf)) := by
 go_enter Tryz.func41, Tryz.ntmps41
 have M := Mem.start hL
 refine sR ?_
 refine pN M 1 (.cells (av 5 (ls [.int .u64 (rc : Int), .int .u64 (ct : Int), .int .u64 (rk : Int), .int .u64 (lf : Int), .int .i64 z])) 35) fun g1 u1 M => ?_
 replace M : Mem ⟨w, []⟩ [⟨g1, .cells (av 5 (ls [.int .u64 (rc : Int), .int .u64 (ct : Int), .int .u64 (rk : Int), .int .u64 (lf : Int), .int .i64 z])) 35⟩] u1 := M
 refine rV 1 <| nT <| sR <| rV 1 <| ZE M 4 0 0 ?_
 by_cases c0 : (rc : Int) < 1
 ·refine ZF 5 (1 ≤ (rc : Int)) ?_
  refine rV 30 <| nT <| wp_ret ?_
  have e0 : mbB rc ct rk lf = false := decide_eq_false (by omega)
  exact bodyPost_ret (v := .bool false) (results_tmp1 Tryz.results41 _ _ _ (by kernel_rfl)) (by kernel_rfl) ⟨by rw [e0], below_grown M.old⟩
 ·refine ZT 5 (1 ≤ (rc : Int)) ?_
  refine rV 2 ?_
  refine pl_cell M (want_on 3 true rfl 6 rfl (by kernel_rfl)) (some 8) rfl 33 _ rfl g1 0 (by kernel_rfl) (.int .u64 (rc : Int)) (fun _ => by kernel_rfl) (fun w M => M.cell 0 rfl (by decide) rfl) ?_
  refine rV 1 ?_
  refine pl_cell M (want_on 3 true rfl 6 rfl (by kernel_rfl)) (some 10) rfl 33 _ rfl g1 1 (by kernel_rfl) (.int .u64 (ct : Int)) (fun _ => by kernel_rfl) (fun w M => M.cell 0 rfl (by decide) rfl) ?_
  by_cases c1 : (ct : Int) < (rc : Int)
  ·refine pl_val (want_on 3 true rfl 6 rfl (by kernel_rfl)) (some 11) rfl (.bool false) (fun w => Eq.trans (b := .ok (.value (.bool (decide ((rc : Int) ≤ (ct : Int))))) w) (by kernel_rfl) (by rw [decide_eq_false (by omega)])) ?_
   refine rV 24 <| nT <| wp_ret ?_
   have e0 : mbB rc ct rk lf = false := decide_eq_false (by omega)
   exact bodyPost_ret (v := .bool false) (results_tmp1 Tryz.results41 _ _ _ (by kernel_rfl)) (by kernel_rfl) ⟨by rw [e0], below_grown M.old⟩
  ·refine pl_val (want_on 3 true rfl 6 rfl (by kernel_rfl)) (some 11) rfl (.bool true) (fun w => Eq.trans (b := .ok (.value (.bool (decide ((rc : Int) ≤ (ct : Int))))) w) (by kernel_rfl) (by rw [decide_eq_true (by omega)])) ?_
   refine rV 3 ?_
   refine pl_cell M (want_on 10 true rfl 13 rfl (by kernel_rfl)) (some 15) rfl 33 _ rfl g1 1 (by kernel_rfl) (.int .u64 (ct : Int)) (fun _ => by kernel_rfl) (fun w M => M.cell 0 rfl (by decide) rfl) ?_
   by_cases c2 : 1152921504606846976 < (ct : Int)
   ·refine pl_val (want_on 10 true rfl 13 rfl (by kernel_rfl)) (some 16) rfl (.bool false) (fun w => Eq.trans (b := .ok (.value (.bool (decide ((ct : Int) ≤ 1152921504606846976)))) w) (by kernel_rfl) (by rw [decide_eq_false (by omega)])) ?_
    refine rV 19 <| nT <| wp_ret ?_
    have e0 : mbB rc ct rk lf = false := decide_eq_false (by omega)
    exact bodyPost_ret (v := .bool false) (results_tmp1 Tryz.results41 _ _ _ (by kernel_rfl)) (by kernel_rfl) ⟨by rw [e0], below_grown M.old⟩
   ·refine pl_val (want_on 10 true rfl 13 rfl (by kernel_rfl)) (some 16) rfl (.bool true) (fun w => Eq.trans (b := .ok (.value (.bool (decide ((ct : Int) ≤ 1152921504606846976)))) w) (by kernel_rfl) (by rw [decide_eq_true (by omega)])) ?_
    refine rV 3 ?_
    refine pl_cell M (want_on 15 true rfl 18 rfl (by kernel_rfl)) (some 20) rfl 33 _ rfl g1 2 (by kernel_rfl) (.int .u64 (rk : Int)) (fun _ => by kernel_rfl) (fun w M => M.cell 0 rfl (by decide) rfl) ?_
    by_cases c3 : (rk : Int) < 1
    ·refine pl_val (want_on 15 true rfl 18 rfl (by kernel_rfl)) (some 21) rfl (.bool false) (fun w => Eq.trans (b := .ok (.value (.bool (decide (1 ≤ (rk : Int))))) w) (by kernel_rfl) (by rw [decide_eq_false (by omega)])) ?_
     refine rV 14 <| nT <| wp_ret ?_
     have e0 : mbB rc ct rk lf = false := decide_eq_false (by omega)
     exact bodyPost_ret (v := .bool false) (results_tmp1 Tryz.results41 _ _ _ (by kernel_rfl)) (by kernel_rfl) ⟨by rw [e0], below_grown M.old⟩
    ·refine pl_val (want_on 15 true rfl 18 rfl (by kernel_rfl)) (some 21) rfl (.bool true) (fun w => Eq.trans (b := .ok (.value (.bool (decide (1 ≤ (rk : Int))))) w) (by kernel_rfl) (by rw [decide_eq_true (by omega)])) ?_
     refine rV 3 ?_
     refine pl_cell M (want_on 20 true rfl 23 rfl (by kernel_rfl)) (some 25) rfl 33 _ rfl g1 2 (by kernel_rfl) (.int .u64 (rk : Int)) (fun _ => by kernel_rfl) (fun w M => M.cell 0 rfl (by decide) rfl) ?_
     refine rV 1 ?_
     refine pl_cell M (want_on 20 true rfl 23 rfl (by kernel_rfl)) (some 27) rfl 33 _ rfl g1 3 (by kernel_rfl) (.int .u64 (lf : Int)) (fun _ => by kernel_rfl) (fun w M => M.cell 0 rfl (by decide) rfl) ?_
     by_cases c4 : (lf : Int) < (rk : Int)
     ·refine pl_val (want_on 20 true rfl 23 rfl (by kernel_rfl)) (some 28) rfl (.bool false) (fun w => Eq.trans (b := .ok (.value (.bool (decide ((rk : Int) ≤ (lf : Int))))) w) (by kernel_rfl) (by rw [decide_eq_false (by omega)])) ?_
      refine rV 7 <| nT <| wp_ret ?_
      have e0 : mbB rc ct rk lf = false := decide_eq_false (by omega)
      exact bodyPost_ret (v := .bool false) (results_tmp1 Tryz.results41 _ _ _ (by kernel_rfl)) (by kernel_rfl) ⟨by rw [e0], below_grown M.old⟩
     ·refine pl_val (want_on 20 true rfl 23 rfl (by kernel_rfl)) (some 28) rfl (.bool true) (fun w => Eq.trans (b := .ok (.value (.bool (decide ((rk : Int) ≤ (lf : Int))))) w) (by kernel_rfl) (by rw [decide_eq_true (by omega)])) ?_
      refine rV 3 ?_
      refine pl_cell M (want_on 27 true rfl 30 rfl (by kernel_rfl)) (some 32) rfl 33 _ rfl g1 3 (by kernel_rfl) (.int .u64 (lf : Int)) (fun _ => by kernel_rfl) (fun w M => M.cell 0 rfl (by decide) rfl) ?_
      by_cases c5 : 1152921504606846976 < (lf : Int)
      ·refine pl_val (want_on 27 true rfl 30 rfl (by kernel_rfl)) (some 33) rfl (.bool false) (fun w => Eq.trans (b := .ok (.value (.bool (decide ((lf : Int) ≤ 1152921504606846976)))) w) (by kernel_rfl) (by rw [decide_eq_false (by omega)])) ?_
       refine rV 2 <| nT <| wp_ret ?_
       have e0 : mbB rc ct rk lf = false := decide_eq_false (by omega)
       exact bodyPost_ret (v := .bool false) (results_tmp1 Tryz.results41 _ _ _ (by kernel_rfl)) (by kernel_rfl) ⟨by rw [e0], below_grown M.old⟩
      ·refine pl_val (want_on 27 true rfl 30 rfl (by kernel_rfl)) (some 33) rfl (.bool true) (fun w => Eq.trans (b := .ok (.value (.bool (decide ((lf : Int) ≤ 1152921504606846976)))) w) (by kernel_rfl) (by rw [decide_eq_true (by omega)])) ?_
       refine rV 2 <| nT <| wp_ret ?_
       have e0 : mbB rc ct rk lf = true := decide_eq_true (by omega)
       exact bodyPost_ret (v := .bool true) (results_tmp1 Tryz.results41 _ _ _ (by kernel_rfl)) (by kernel_rfl) ⟨by rw [e0], below_grown M.old⟩
theorem c_ageSince {mt : Nat} (w : World) (hL : Laid w) : Calls Tryz.prog 43 #[.int .u64 (mt : Int)] w fun r w' => ∃ md, r = .returned (.func (.func 67) #[] #[.pointer (some ⟨md, 0, none⟩)]) ∧ w.heap.size ≤ md ∧ w'.heap[md]? = some (.cells (av 1 (ls [.int .u64 (mt : Int)])) 33) ∧ Below w.heap.size w w' := by
 go_enter Tryz.func43, Tryz.ntmps43
 have M := Mem.start hL
 refine sR ?_
 refine pN M 1 (.cells (av 1 (ls [.int .u64 (mt : Int)])) 33) fun g1 u1 M => ?_
 replace M : Mem ⟨w, []⟩ [⟨g1, .cells (av 1 (ls [.int .u64 (mt : Int)])) 33⟩] u1 := M
 refine rV 1 <| nT <| sq <| wp_ret ?_
 exact bodyPost_ret (v := .func (.func 67) #[] #[.pointer (some ⟨g1, 0, none⟩)]) (results_tmp1 Tryz.results43 _ _ _ (by kernel_rfl)) (by kernel_rfl) ⟨_, rfl, ((M.ge _ (List.mem_singleton.2 rfl)).resolve_right (by simp)), M.get 0 rfl, below_grown M.old⟩
theorem a_New {y0 y1 sd rv y4 : Yb} {fi : Bool} {mt rc ct rk lf : Nat} {s : Nat} (h1 : sd.size = 32) (h2 : rv.size = 32) (h3 : mbB rc ct rk lf = true) (hs : 1 ≤ s) (hs4 : s ≤ 4096) (w : World) (hL : Laid w) : Calls Tryz.prog 20 #[.agg (av 5 (ls [.string y0, .string y1, .string sd, .string rv, .string y4])), .bool (fi), .int .u64 (mt : Int), .agg (av 5 (ls [.int .u64 (rc : Int), .int .u64 (ct : Int), .int .u64 (rk : Int), .int .u64 (lf : Int), .int .i64 (s : Int)]))] w fun r w' => ∃ x : Nat × List Blk, r = .returned (.tuple #[.pointer (some ⟨x.1, 0, none⟩), .int .i64 0]) ∧ IsT x.1 ⟨rc, ct, rk, lf, s, 0, mt, sd, rv, fi, fi, []⟩ x.2 ∧ OkT w w' [] x.2 := by
 go_enter Tryz.func20, Tryz.ntmps20
 have M := Mem.start hL
 refine sR ?_
 refine pN M 4 (.cells (av 5 (ls [.string y0, .string y1, .string sd, .string rv, .string y4])) 61) fun g1 u1 M => ?_
 replace M : Mem ⟨w, []⟩ [⟨g1, .cells (av 5 (ls [.string y0, .string y1, .string sd, .string rv, .string y4])) 61⟩] u1 := M
 refine pN M 7 (.cells (av 5 (ls [.int .u64 (rc : Int), .int .u64 (ct : Int), .int .u64 (rk : Int), .int .u64 (lf : Int), .int .i64 (s : Int)])) 35) fun g2 u2 M => ?_
 replace M : Mem ⟨w, []⟩ [⟨g1, .cells (av 5 (ls [.string y0, .string y1, .string sd, .string rv, .string y4])) 61⟩, ⟨g2, .cells (av 5 (ls [.int .u64 (rc : Int), .int .u64 (ct : Int), .int .u64 (rk : Int), .int .u64 (lf : Int), .int .i64 (s : Int)])) 35⟩] u2 := M
 refine rV 2 <| nT <| wp_seq <| sR <| rV 1 ?_
 refine ZE M 13 0 2 <| rV 1 ?_
 by_cases c0 : (sd.size : Int) = 32
 ·refine pH 15 (.bool false) (jD ((sd.size : Int) = 32) (c0)) ?_
  refine rV 2 ?_
  refine pl_cell M (want_on 4 false rfl 16 rfl (by kernel_rfl)) (some 18) rfl 9 _ rfl g1 3 (by kernel_rfl) (.string rv) (fun _ => by kernel_rfl) (fun w M => M.cell 0 rfl (by decide) rfl) ?_
  refine rV 1 ?_
  by_cases c1 : (rv.size : Int) = 32
  ·refine pl_val (want_on 4 false rfl 16 rfl (by kernel_rfl)) (some 20) rfl (.bool false) (fun w => Eq.trans (b := .ok (.value (.bool (!(decide ((rv.size : Int) = 32))))) w) (by kernel_rfl) (by rw [decide_eq_true (c1)]; rfl)) ?_
   refine rV 2 ?_
   refine pl_load M (want_on 10 false rfl 22 rfl (by kernel_rfl)) (some 23) rfl 35 _ rfl 1 g2 0 (by kernel_rfl) 5 35 (ls [.int .u64 (rc : Int), .int .u64 (ct : Int), .int .u64 (rk : Int), .int .u64 (lf : Int), .int .i64 (s : Int)]) rfl 5 (ls [.int .u64 (rc : Int), .int .u64 (ct : Int), .int .u64 (rk : Int), .int .u64 (lf : Int), .int .i64 (s : Int)]) (fun j _ => by rw [Nat.zero_add]) (by decide) _ Tryz.underlying35 rfl inz35 ?_
   refine pl_call M (want_on 10 false rfl 22 rfl (by kernel_rfl)) (some 24) rfl 41 #[.agg (av 5 (ls [.int .u64 (rc : Int), .int .u64 (ct : Int), .int .u64 (rk : Int), .int .u64 (lf : Int), .int .i64 (s : Int)]))] (.bool true) (fun _ => by kernel_rfl) (fun w M => call_val (c_mayBe w M.laid) (congrArg Value.bool h3)) fun u3 M => ?_
   refine rV 2 <| nT <| cF <| wp_skip <| au_then ?_
   refine sR <| rV 1 <| ZE M 29 1 4 ?_
   refine pl_callM M (want_no rfl) (some 30) rfl 42 #[.int .i64 (s : Int)] [⟨g1, .cells (av 5 (ls [.string y0, .string y1, .string sd, .string rv, .string y4])) 61⟩, ⟨g2, .cells (av 5 (ls [.int .u64 (rc : Int), .int .u64 (ct : Int), .int .u64 (rk : Int), .int .u64 (lf : Int), .int .i64 (s : Int)])) 35⟩] [] [] (by simp only [List.append_assoc, List.cons_append, List.nil_append, List.append_nil]) (fun x : Nat × Nat => .tuple #[.pointer (some ⟨x.1, 0, none⟩), .int .i64 0]) (fun x : Nat × Nat => [⟨x.1, .cells (av 3 (ls [.int .u64 (s : Int), .int .u64 0, .slice (some ⟨x.2, 0, none⟩) (nW s) (nW s)])) 123⟩, ⟨x.2, .cells (av (nW s) (w64 (fun _ => 0))) 33⟩]) (fun x : Nat × Nat => True) (fun _ => by kernel_rfl) (fun w hL hT => c_WNew s hs hs4 w hL) ?_
   rintro ⟨wd, k⟩ u4 - M
   replace M : Mem ⟨w, []⟩ [⟨g1, .cells (av 5 (ls [.string y0, .string y1, .string sd, .string rv, .string y4])) 61⟩, ⟨g2, .cells (av 5 (ls [.int .u64 (rc : Int), .int .u64 (ct : Int), .int .u64 (rk : Int), .int .u64 (lf : Int), .int .i64 (s : Int)])) 35⟩, ⟨wd, .cells (av 3 (ls [.int .u64 (s : Int), .int .u64 0, .slice (some ⟨k, 0, none⟩) (nW s) (nW s)])) 123⟩, ⟨k, .cells (av (nW s) (w64 (fun _ => 0))) 33⟩] u4 := by simpa only [List.append_assoc, List.cons_append, List.nil_append, List.append_nil] using M
   refine rV 5 <| nT <| wp_seq <| sq <| cF ?_
   refine wp_skip <| au_then <| wp_seq ?_
   refine rg_held M [⟨g1, .cells (av 5 (ls [.string y0, .string y1, .string sd, .string rv, .string y4])) 61⟩, ⟨g2, .cells (av 5 (ls [.int .u64 (rc : Int), .int .u64 (ct : Int), .int .u64 (rk : Int), .int .u64 (lf : Int), .int .i64 (s : Int)])) 35⟩, ⟨wd, .cells (av 3 (ls [.int .u64 (s : Int), .int .u64 0, .slice (some ⟨k, 0, none⟩) (nW s) (nW s)])) 123⟩, ⟨k, .cells (av (nW s) (w64 (fun _ => 0))) 33⟩] 15 rfl (by kernel_rfl) (by kernel_rfl) (fun _ _ d _ _ h => by cases d <;> exact h) fun u5 M => ?_
   replace M : Mem ⟨w, []⟩ [⟨g1, .cells (av 5 (ls [.string y0, .string y1, .string sd, .string rv, .string y4])) 61⟩, ⟨g2, .cells (av 5 (ls [.int .u64 (rc : Int), .int .u64 (ct : Int), .int .u64 (rk : Int), .int .u64 (lf : Int), .int .i64 (s : Int)])) 35⟩, ⟨wd, .cells (av 3 (ls [.int .u64 (s : Int), .int .u64 0, .slice (some ⟨k, 0, none⟩) (nW s) (nW s)])) 123⟩, ⟨k, .cells (av (nW s) (w64 (fun _ => 0))) 33⟩] u5 := M
   refine qV M 0 36 (.pointer (some ⟨wd, 0, none⟩)) ?_
   refine qV M 1 37 (.int .u64 (mt : Int)) ?_
   refine hl_load M 3 rfl (by decide) (by kernel_rfl) (by kernel_rfl) (want_no rfl) (some 39) rfl 35 _ rfl 1 g2 0 (by kernel_rfl) 5 35 (ls [.int .u64 (rc : Int), .int .u64 (ct : Int), .int .u64 (rk : Int), .int .u64 (lf : Int), .int .i64 (s : Int)]) rfl 5 (ls [.int .u64 (rc : Int), .int .u64 (ct : Int), .int .u64 (rk : Int), .int .u64 (lf : Int), .int .i64 (s : Int)]) (fun j _ => by rw [Nat.zero_add]) (by decide) _ Tryz.underlying35 rfl inz35 ?_
   refine qV M 4 40 (.pointer (some ⟨g1, 2, none⟩)) ?_
   refine hl_cell M 5 rfl (by decide) (by kernel_rfl) (by kernel_rfl) (want_no rfl) (some 41) rfl 9 _ rfl g1 2 (by kernel_rfl) (.string sd) (fun _ => by kernel_rfl) (fun w M => M.cell 0 rfl (by decide) rfl) ?_
   refine qV M 6 42 (.pointer (some ⟨g1, 3, none⟩)) ?_
   refine hl_cell M 7 rfl (by decide) (by kernel_rfl) (by kernel_rfl) (want_no rfl) (some 43) rfl 9 _ rfl g1 3 (by kernel_rfl) (.string rv) (fun _ => by kernel_rfl) (fun w M => M.cell 0 rfl (by decide) rfl) ?_
   refine qV M 8 44 (.bool (fi)) ?_
   refine qV M 9 45 (.bool (fi)) ?_
   refine hl_one 2 (by decide) (by kernel_rfl) rfl ?_
   refine pl_calln M (want_no rfl) (some 38) rfl 43 #[.int .u64 (mt : Int)] (fun g3 => .func (.func 67) #[] #[.pointer (some ⟨g3, 0, none⟩)]) (.cells (av 1 (ls [.int .u64 (mt : Int)])) 33) (fun _ => by kernel_rfl) (fun w M => c_ageSince w M.laid) fun g3 u6 M => ?_
   replace M : Mem ⟨w, []⟩ [⟨g1, .cells (av 5 (ls [.string y0, .string y1, .string sd, .string rv, .string y4])) 61⟩, ⟨g2, .cells (av 5 (ls [.int .u64 (rc : Int), .int .u64 (ct : Int), .int .u64 (rk : Int), .int .u64 (lf : Int), .int .i64 (s : Int)])) 35⟩, ⟨wd, .cells (av 3 (ls [.int .u64 (s : Int), .int .u64 0, .slice (some ⟨k, 0, none⟩) (nW s) (nW s)])) 123⟩, ⟨k, .cells (av (nW s) (w64 (fun _ => 0))) 33⟩, ⟨g3, .cells (av 1 (ls [.int .u64 (mt : Int)])) 33⟩] u6 := M
   refine nT ?_
   refine ⟨(M.drop (.cons_cons _ (.cons_cons _ (.cons_cons _ (.cons_cons _ (.cons _ (.slnil))))))), ?_⟩
   refine qV (M.drop (.cons_cons _ (.cons_cons _ (.cons_cons _ (.cons_cons _ (.cons _ (.slnil))))))) 10 46 (.agg (av 12 (ls [.pointer (some ⟨wd, 0, none⟩), .func (.func 67) #[] #[.pointer (some ⟨g3, 0, none⟩)], .int .u64 (rc : Int), .int .u64 (ct : Int), .int .u64 (rk : Int), .int .u64 (lf : Int), .int .i64 (s : Int), .string sd, .string rv, .bool (fi), .bool (fi), .int .u64 0]))) ?_
   refine hl_one 11 (by decide) (by kernel_rfl) rfl ?_
   refine pN M 47 (.cells (av 12 (ls [.pointer (some ⟨wd, 0, none⟩), .func (.func 67) #[] #[.pointer (some ⟨g3, 0, none⟩)], .int .u64 (rc : Int), .int .u64 (ct : Int), .int .u64 (rk : Int), .int .u64 (lf : Int), .int .i64 (s : Int), .string sd, .string rv, .bool (fi), .bool (fi), .int .u64 0])) 78) fun g4 u7 M => ?_
   replace M : Mem ⟨w, []⟩ [⟨g1, .cells (av 5 (ls [.string y0, .string y1, .string sd, .string rv, .string y4])) 61⟩, ⟨g2, .cells (av 5 (ls [.int .u64 (rc : Int), .int .u64 (ct : Int), .int .u64 (rk : Int), .int .u64 (lf : Int), .int .i64 (s : Int)])) 35⟩, ⟨wd, .cells (av 3 (ls [.int .u64 (s : Int), .int .u64 0, .slice (some ⟨k, 0, none⟩) (nW s) (nW s)])) 123⟩, ⟨k, .cells (av (nW s) (w64 (fun _ => 0))) 33⟩, ⟨g3, .cells (av 1 (ls [.int .u64 (mt : Int)])) 33⟩, ⟨g4, .cells (av 12 (ls [.pointer (some ⟨wd, 0, none⟩), .func (.func 67) #[] #[.pointer (some ⟨g3, 0, none⟩)], .int .u64 (rc : Int), .int .u64 (ct : Int), .int .u64 (rk : Int), .int .u64 (lf : Int), .int .i64 (s : Int), .string sd, .string rv, .bool (fi), .bool (fi), .int .u64 0])) 78⟩] u7 := M
   refine nT ?_
   refine ⟨(M.drop (.cons_cons _ (.cons_cons _ (.cons_cons _ (.cons_cons _ (.cons _ (.cons _ (.slnil)))))))), ?_⟩
   refine qV (M.drop (.cons_cons _ (.cons_cons _ (.cons_cons _ (.cons_cons _ (.cons _ (.cons _ (.slnil)))))))) 12 48 (.agg (av 1 (ls [.pointer (some ⟨g4, 0, none⟩)]))) ?_
   refine hl_one 13 (by decide) (by kernel_rfl) rfl ?_
   refine pN M 49 (.cells (av 1 (ls [.pointer (some ⟨g4, 0, none⟩)])) 72) fun g5 u8 M => ?_
   replace M : Mem ⟨w, []⟩ [⟨g1, .cells (av 5 (ls [.string y0, .string y1, .string sd, .string rv, .string y4])) 61⟩, ⟨g2, .cells (av 5 (ls [.int .u64 (rc : Int), .int .u64 (ct : Int), .int .u64 (rk : Int), .int .u64 (lf : Int), .int .i64 (s : Int)])) 35⟩, ⟨wd, .cells (av 3 (ls [.int .u64 (s : Int), .int .u64 0, .slice (some ⟨k, 0, none⟩) (nW s) (nW s)])) 123⟩, ⟨k, .cells (av (nW s) (w64 (fun _ => 0))) 33⟩, ⟨g3, .cells (av 1 (ls [.int .u64 (mt : Int)])) 33⟩, ⟨g4, .cells (av 12 (ls [.pointer (some ⟨wd, 0, none⟩), .func (.func 67) #[] #[.pointer (some ⟨g3, 0, none⟩)], .int .u64 (rc : Int), .int .u64 (ct : Int), .int .u64 (rk : Int), .int .u64 (lf : Int), .int .i64 (s : Int), .string sd, .string rv, .bool (fi), .bool (fi), .int .u64 0])) 78⟩, ⟨g5, .cells (av 1 (ls [.pointer (some ⟨g4, 0, none⟩)])) 72⟩] u8 := M
   refine nT ?_
   refine ⟨(M.drop (.cons_cons _ (.cons_cons _ (.cons_cons _ (.cons_cons _ (.cons _ (.cons _ (.cons _ (.slnil))))))))), ?_⟩
   refine qV (M.drop (.cons_cons _ (.cons_cons _ (.cons_cons _ (.cons_cons _ (.cons _ (.cons _ (.cons _ (.slnil))))))))) 14 8 (.pointer (some ⟨g5, 0, none⟩)) ?_
   refine hl_end (by kernel_rfl) (by kernel_rfl) rfl ?_
   refine rV 1 <| nT <| au_then <| wp_ret ?_
   exact bodyPost_ret (v := .tuple #[.pointer (some ⟨g5, 0, none⟩), .int .i64 0]) (results_tmp2 Tryz.results20 _ _ _ _ (by kernel_rfl) (by kernel_rfl)) (by kernel_rfl) ⟨(_, _), rfl, ⟨_, _, _, _, _, _, rfl, inv_new s, by decide⟩, Mem.okT0 (T := []) ((M.drop (.cons _ (.cons _ (List.Sublist.refl _)))).perm ((List.perm_append_comm (l₁ := [_, _, _]) (l₂ := [_, _])).trans (.swap _ _ _)))⟩
  ·exfalso; omega
 ·exfalso; omega
theorem c_TSure {x : TS} {p e wd k md h : Nat} {m : NI} (w : World) (hL : Laid w)  (hT : There w [⟨p, .cells (av 1 (ls [.pointer (some ⟨e, 0, none⟩)])) 72⟩, ⟨e, .cells (av 12 (ls [.pointer (some ⟨wd, 0, none⟩), .func (.func 67) #[] #[.pointer (some ⟨md, 0, none⟩)], .int .u64 ((x.rc : Nat) : Int), .int .u64 ((x.ct : Nat) : Int), .int .u64 ((x.rk : Nat) : Int), .int .u64 ((x.lf : Nat) : Int), .int .i64 ((x.sz : Nat) : Int), .string x.sd, .string x.rv, .bool (x.fi), .bool (x.su), .int .u64 ((x.nx : Nat) : Int)])) 78⟩, ⟨wd, .cells (av 3 (ls [.int .u64 ((x.sz : Nat) : Int), .int .u64 (h : Int), .slice (some ⟨k, 0, none⟩) (nW x.sz) (nW x.sz)])) 123⟩, ⟨k, .cells (av (nW x.sz) (w64 m)) 33⟩, ⟨md, .cells (av 1 (ls [.int .u64 ((x.mt : Nat) : Int)])) 33⟩]) : Cs 9 #[.pointer (some ⟨p, 0, none⟩)] w (.bool (x.su)) := by
 go_enter Tryz.func9, Tryz.ntmps9
 have M : Mem ⟨w, [p, e, wd, k, md]⟩ [⟨p, .cells (av 1 (ls [.pointer (some ⟨e, 0, none⟩)])) 72⟩, ⟨e, .cells (av 12 (ls [.pointer (some ⟨wd, 0, none⟩), .func (.func 67) #[] #[.pointer (some ⟨md, 0, none⟩)], .int .u64 ((x.rc : Nat) : Int), .int .u64 ((x.ct : Nat) : Int), .int .u64 ((x.rk : Nat) : Int), .int .u64 ((x.lf : Nat) : Int), .int .i64 ((x.sz : Nat) : Int), .string x.sd, .string x.rv, .bool (x.fi), .bool (x.su), .int .u64 ((x.nx : Nat) : Int)])) 78⟩, ⟨wd, .cells (av 3 (ls [.int .u64 ((x.sz : Nat) : Int), .int .u64 (h : Int), .slice (some ⟨k, 0, none⟩) (nW x.sz) (nW x.sz)])) 123⟩, ⟨k, .cells (av (nW x.sz) (w64 m)) 33⟩, ⟨md, .cells (av 1 (ls [.int .u64 ((x.mt : Nat) : Int)])) 33⟩] w := Mem.startT hL hT
 refine sq <| sR <| rV 1 ?_
 refine pC M 4 21 #[.pointer (some ⟨p, 0, none⟩)] (.bool true) (fun w M => c_there w M.laid (M.there (.cons_cons _ (List.nil_sublist _)))) fun u1 M => ?_
 refine rV 4 ?_
 refine pl_cell M (want_on 2 true rfl 5 rfl (by kernel_rfl)) (some 9) rfl 70 _ rfl p 0 (by kernel_rfl) (.pointer (some ⟨e, 0, none⟩)) (fun _ => by kernel_rfl) (fun w M => M.cell 0 rfl (by decide) rfl) ?_
 refine rV 2 ?_
 rcases Bool.eq_false_or_eq_true (x.su) with c0 | c0
 ·refine pl_cell M (want_on 2 true rfl 5 rfl (by kernel_rfl)) (some 12) rfl 4 _ rfl e 10 (by kernel_rfl) (.bool true) (fun _ => by kernel_rfl) (fun w M => M.cell 1 rfl (by decide) (congrArg Value.bool c0)) ?_
  refine rV 2 <| nT <| wp_ret ?_
  have e0 : x.su = true := c0
  exact bodyPost_ret (v := .bool true) (results_tmp1 Tryz.results9 _ _ _ (by kernel_rfl)) (by kernel_rfl) ⟨by rw [e0], ro_T hT M⟩
 ·refine pl_cell M (want_on 2 true rfl 5 rfl (by kernel_rfl)) (some 12) rfl 4 _ rfl e 10 (by kernel_rfl) (.bool false) (fun _ => by kernel_rfl) (fun w M => M.cell 1 rfl (by decide) (congrArg Value.bool c0)) ?_
  refine rV 2 <| nT <| wp_ret ?_
  have e0 : x.su = false := c0
  exact bodyPost_ret (v := .bool false) (results_tmp1 Tryz.results9 _ _ _ (by kernel_rfl)) (by kernel_rfl) ⟨by rw [e0], ro_T hT M⟩
theorem c_TSeal {x : TS} {p e wd k md h : Nat} {m : NI} {s : Yb} {n : Nat} (hn : n < 18446744073709551616) (hx : x.nx + 1 < 18446744073709551616) (w : World) (hL : Laid w)  (hT : There w [⟨p, .cells (av 1 (ls [.pointer (some ⟨e, 0, none⟩)])) 72⟩, ⟨e, .cells (av 12 (ls [.pointer (some ⟨wd, 0, none⟩), .func (.func 67) #[] #[.pointer (some ⟨md, 0, none⟩)], .int .u64 ((x.rc : Nat) : Int), .int .u64 ((x.ct : Nat) : Int), .int .u64 ((x.rk : Nat) : Int), .int .u64 ((x.lf : Nat) : Int), .int .i64 ((x.sz : Nat) : Int), .string x.sd, .string x.rv, .bool (x.fi), .bool (x.su), .int .u64 ((x.nx : Nat) : Int)])) 78⟩, ⟨wd, .cells (av 3 (ls [.int .u64 ((x.sz : Nat) : Int), .int .u64 (h : Int), .slice (some ⟨k, 0, none⟩) (nW x.sz) (nW x.sz)])) 123⟩, ⟨k, .cells (av (nW x.sz) (w64 m)) 33⟩, ⟨md, .cells (av 1 (ls [.int .u64 ((x.mt : Nat) : Int)])) 33⟩]) : Calls Tryz.prog 8 #[.pointer (some ⟨p, 0, none⟩), .int .u64 (n : Int), .string s] w fun r w' => r = .returned (.tuple #[.int .u64 ((x.sN n s : Nat) : Int), .string (x.sC n s), .int .i64 (x.sE n s)]) ∧ OkT w w' (tB x p e wd k md h m) (tB (x.sX n s) p e wd k md h m) := by
 go_enter Tryz.func8, Tryz.ntmps8
 have M : Mem ⟨w, [p, e, wd, k, md]⟩ [⟨p, .cells (av 1 (ls [.pointer (some ⟨e, 0, none⟩)])) 72⟩, ⟨e, .cells (av 12 (ls [.pointer (some ⟨wd, 0, none⟩), .func (.func 67) #[] #[.pointer (some ⟨md, 0, none⟩)], .int .u64 ((x.rc : Nat) : Int), .int .u64 ((x.ct : Nat) : Int), .int .u64 ((x.rk : Nat) : Int), .int .u64 ((x.lf : Nat) : Int), .int .i64 ((x.sz : Nat) : Int), .string x.sd, .string x.rv, .bool (x.fi), .bool (x.su), .int .u64 ((x.nx : Nat) : Int)])) 78⟩, ⟨wd, .cells (av 3 (ls [.int .u64 ((x.sz : Nat) : Int), .int .u64 (h : Int), .slice (some ⟨k, 0, none⟩) (nW x.sz) (nW x.sz)])) 123⟩, ⟨k, .cells (av (nW x.sz) (w64 m)) 33⟩, ⟨md, .cells (av 1 (ls [.int .u64 ((x.mt : Nat) : Int)])) 33⟩] w := Mem.startT hL hT
 refine sq <| wp_seq <| sR <| rV 1 ?_
 refine pC M 11 21 #[.pointer (some ⟨p, 0, none⟩)] (.bool true) (fun w M => c_there w M.laid (M.there (.cons_cons _ (List.nil_sublist _)))) fun u1 M => ?_
 refine rV 1 <| nT <| cF <| wp_skip <| au_then ?_
 refine wp_seq <| sR <| rV 3 <| ZE M 16 0 0 <| rV 1 ?_
 refine pC M 18 22 #[.pointer (some ⟨e, 0, none⟩), .int .u64 (n : Int)] (.int .i64 (slF x.sd x.su x.ct x.lf x.nx x.mt n)) (fun w M => c_sealFault hn w M.laid (M.there (.cons _ (.cons_cons _ (.cons _ (.cons _ (.cons_cons _ (List.nil_sublist _)))))))) fun u2 M => ?_
 refine rV 1 <| nT <| sR <| rV 1 ?_
 by_cases c0 : (slF x.sd x.su x.ct x.lf x.nx x.mt n) = 0
 ·refine pH 20 (.bool false) (jD ((slF x.sd x.su x.ct x.lf x.nx x.mt n) = 0) (c0)) ?_
  refine nT <| cF <| wp_skip <| au_then <| sR ?_
  refine rV 3 <| ZE M 25 0 0 <| rV 1 ?_
  refine pl_callp M (want_no rfl) (some 27) rfl 23 #[.pointer (some ⟨e, 0, none⟩), .string s] (.tuple #[.int .u64 ((slN x.sd x.nx s : Nat) : Int), .string (slC x.sd x.nx s), .int .i64 (slZ x.sd x.nx s)]) 1 e (.cells (av 12 (ls [.pointer (some ⟨wd, 0, none⟩), .func (.func 67) #[] #[.pointer (some ⟨md, 0, none⟩)], .int .u64 ((x.rc : Nat) : Int), .int .u64 ((x.ct : Nat) : Int), .int .u64 ((x.rk : Nat) : Int), .int .u64 ((x.lf : Nat) : Int), .int .i64 ((x.sz : Nat) : Int), .string x.sd, .string x.rv, .bool (x.fi), .bool (x.su), .int .u64 ((x.nx : Nat) : Int)])) 78) (.cells (av 12 (ls [.pointer (some ⟨wd, 0, none⟩), .func (.func 67) #[] #[.pointer (some ⟨md, 0, none⟩)], .int .u64 ((x.rc : Nat) : Int), .int .u64 ((x.ct : Nat) : Int), .int .u64 ((x.rk : Nat) : Int), .int .u64 ((x.lf : Nat) : Int), .int .i64 ((x.sz : Nat) : Int), .string x.sd, .string x.rv, .bool (x.fi), .bool (x.su), .int .u64 ((slX x.sd x.nx s : Nat) : Int)])) 78) rfl (fun _ => by kernel_rfl) (fun w M => c_tseal hx w M.laid (M.there (.cons _ (.cons_cons _ (List.nil_sublist _))))) fun u3 M => ?_
  replace M : Mem ⟨w, [p, e, wd, k, md]⟩ [⟨p, .cells (av 1 (ls [.pointer (some ⟨e, 0, none⟩)])) 72⟩, ⟨e, .cells (av 12 (ls [.pointer (some ⟨wd, 0, none⟩), .func (.func 67) #[] #[.pointer (some ⟨md, 0, none⟩)], .int .u64 ((x.rc : Nat) : Int), .int .u64 ((x.ct : Nat) : Int), .int .u64 ((x.rk : Nat) : Int), .int .u64 ((x.lf : Nat) : Int), .int .i64 ((x.sz : Nat) : Int), .string x.sd, .string x.rv, .bool (x.fi), .bool (x.su), .int .u64 ((slX x.sd x.nx s : Nat) : Int)])) 78⟩, ⟨wd, .cells (av 3 (ls [.int .u64 ((x.sz : Nat) : Int), .int .u64 (h : Int), .slice (some ⟨k, 0, none⟩) (nW x.sz) (nW x.sz)])) 123⟩, ⟨k, .cells (av (nW x.sz) (w64 m)) 33⟩, ⟨md, .cells (av 1 (ls [.int .u64 ((x.mt : Nat) : Int)])) 33⟩] u3 := M
  refine rV 6 <| nT <| wp_ret ?_
  have e0 : x.sF n = (slF x.sd x.su x.ct x.lf x.nx x.mt n) := rfl
  exact bodyPost_ret (v := .tuple #[.int .u64 ((slN x.sd x.nx s : Nat) : Int), .string (slC x.sd x.nx s), .int .i64 (slZ x.sd x.nx s)]) (results_t3 Tryz.results8 _ _ _ _ _ (by kernel_rfl) (by kernel_rfl) (by kernel_rfl)) (by kernel_rfl) ⟨by unfold TS.sN TS.sC TS.sE; rw [e0, if_pos c0, if_pos c0, if_pos c0], by unfold TS.sX; rw [e0, if_pos c0]; exact M.okT0⟩
 ·refine pH 20 (.bool true) (jU ((slF x.sd x.su x.ct x.lf x.nx x.mt n) = 0) (c0)) ?_
  refine nT <| cT <| sq <| wp_ret <| au_then_ret ?_
  have e0 : x.sF n = (slF x.sd x.su x.ct x.lf x.nx x.mt n) := rfl
  exact bodyPost_ret (v := .tuple #[.int .u64 0, .string ⟨#[]⟩, .int .i64 (slF x.sd x.su x.ct x.lf x.nx x.mt n)]) (results_t3 Tryz.results8 _ _ _ _ _ (by kernel_rfl) (by kernel_rfl) (by kernel_rfl)) (by kernel_rfl) ⟨by unfold TS.sN TS.sC TS.sE; rw [e0, if_neg c0, if_neg c0, if_neg c0]; rfl, by unfold TS.sX; rw [e0, if_neg c0]; exact M.okT0⟩
theorem c_TOpen {x : TS} {p e wd k md h : Nat} {m : NI} {i : Nat} {c : Yb} {n : Nat} (hn : n < 18446744073709551616) (hi : i < 18446744073709551616) (hs : 1 ≤ x.sz) (hh : h < 18446744073709551616) (I : Inv x.sz h m x.q) (w : World) (hL : Laid w)  (hT : There w [⟨p, .cells (av 1 (ls [.pointer (some ⟨e, 0, none⟩)])) 72⟩, ⟨e, .cells (av 12 (ls [.pointer (some ⟨wd, 0, none⟩), .func (.func 67) #[] #[.pointer (some ⟨md, 0, none⟩)], .int .u64 ((x.rc : Nat) : Int), .int .u64 ((x.ct : Nat) : Int), .int .u64 ((x.rk : Nat) : Int), .int .u64 ((x.lf : Nat) : Int), .int .i64 ((x.sz : Nat) : Int), .string x.sd, .string x.rv, .bool (x.fi), .bool (x.su), .int .u64 ((x.nx : Nat) : Int)])) 78⟩, ⟨wd, .cells (av 3 (ls [.int .u64 ((x.sz : Nat) : Int), .int .u64 (h : Int), .slice (some ⟨k, 0, none⟩) (nW x.sz) (nW x.sz)])) 123⟩, ⟨k, .cells (av (nW x.sz) (w64 m)) 33⟩, ⟨md, .cells (av 1 (ls [.int .u64 ((x.mt : Nat) : Int)])) 33⟩]) : Calls Tryz.prog 10 #[.pointer (some ⟨p, 0, none⟩), .int .u64 (n : Int), .int .u64 (i : Int), .string c] w fun r w' => ∃ y : Nat × (Nat → Int), r = .returned (.tuple #[.string (x.oC n i c), .int .i64 (x.oE n i c)]) ∧ (Inv (x.oX n i c).sz y.1 y.2 (x.oX n i c).q ∧ y.1 < 18446744073709551616) ∧ OkT w w' (tB x p e wd k md h m) (tB (x.oX n i c) p e wd k md y.1 y.2) := by
 go_enter Tryz.func10, Tryz.ntmps10
 have M : Mem ⟨w, [p, e, wd, k, md]⟩ [⟨p, .cells (av 1 (ls [.pointer (some ⟨e, 0, none⟩)])) 72⟩, ⟨e, .cells (av 12 (ls [.pointer (some ⟨wd, 0, none⟩), .func (.func 67) #[] #[.pointer (some ⟨md, 0, none⟩)], .int .u64 ((x.rc : Nat) : Int), .int .u64 ((x.ct : Nat) : Int), .int .u64 ((x.rk : Nat) : Int), .int .u64 ((x.lf : Nat) : Int), .int .i64 ((x.sz : Nat) : Int), .string x.sd, .string x.rv, .bool (x.fi), .bool (x.su), .int .u64 ((x.nx : Nat) : Int)])) 78⟩, ⟨wd, .cells (av 3 (ls [.int .u64 ((x.sz : Nat) : Int), .int .u64 (h : Int), .slice (some ⟨k, 0, none⟩) (nW x.sz) (nW x.sz)])) 123⟩, ⟨k, .cells (av (nW x.sz) (w64 m)) 33⟩, ⟨md, .cells (av 1 (ls [.int .u64 ((x.mt : Nat) : Int)])) 33⟩] w := Mem.startT hL hT
 refine sq <| wp_seq <| sR <| rV 1 ?_
 refine pC M 12 21 #[.pointer (some ⟨p, 0, none⟩)] (.bool true) (fun w M => c_there w M.laid (M.there (.cons_cons _ (List.nil_sublist _)))) fun u1 M => ?_
 refine rV 1 <| nT <| cF <| wp_skip <| au_then ?_
 refine wp_seq <| sR <| rV 3 <| ZE M 17 0 0 <| rV 2 ?_
 refine pC M 20 24 #[.pointer (some ⟨e, 0, none⟩), .int .u64 (n : Int), .int .u64 (i : Int)] (.int .i64 (opF x.sd x.ct x.lf x.sz x.mt x.q n i)) (fun w M => c_openFault hs hh I hn hi w M.laid (M.there (.cons _ (.cons_cons _ (.cons_cons _ (.cons_cons _ (.cons_cons _ (List.nil_sublist _)))))))) fun u2 M => ?_
 refine rV 1 <| nT <| sR <| rV 1 ?_
 by_cases c0 : (opF x.sd x.ct x.lf x.sz x.mt x.q n i) = 0
 ·refine pH 22 (.bool false) (jD ((opF x.sd x.ct x.lf x.sz x.mt x.q n i) = 0) (c0)) ?_
  refine nT <| cF <| wp_skip <| au_then <| sR ?_
  refine rV 3 <| ZE M 27 0 0 <| rV 2 ?_
  refine pl_callM M (want_no rfl) (some 30) rfl 25 #[.pointer (some ⟨e, 0, none⟩), .int .u64 (i : Int), .string c] [⟨p, .cells (av 1 (ls [.pointer (some ⟨e, 0, none⟩)])) 72⟩] [⟨e, .cells (av 12 (ls [.pointer (some ⟨wd, 0, none⟩), .func (.func 67) #[] #[.pointer (some ⟨md, 0, none⟩)], .int .u64 ((x.rc : Nat) : Int), .int .u64 ((x.ct : Nat) : Int), .int .u64 ((x.rk : Nat) : Int), .int .u64 ((x.lf : Nat) : Int), .int .i64 ((x.sz : Nat) : Int), .string x.sd, .string x.rv, .bool (x.fi), .bool (x.su), .int .u64 ((x.nx : Nat) : Int)])) 78⟩, ⟨wd, .cells (av 3 (ls [.int .u64 ((x.sz : Nat) : Int), .int .u64 (h : Int), .slice (some ⟨k, 0, none⟩) (nW x.sz) (nW x.sz)])) 123⟩, ⟨k, .cells (av (nW x.sz) (w64 m)) 33⟩] [⟨md, .cells (av 1 (ls [.int .u64 ((x.mt : Nat) : Int)])) 33⟩] (by simp only [List.append_assoc, List.cons_append, List.nil_append, List.append_nil]) (fun y : Nat × (Nat → Int) => .tuple #[.string (opC x.rv i c), .int .i64 (opZ x.rv i c)]) (fun y : Nat × (Nat → Int) => [⟨e, .cells (av 12 (ls [.pointer (some ⟨wd, 0, none⟩), .func (.func 67) #[] #[.pointer (some ⟨md, 0, none⟩)], .int .u64 ((x.rc : Nat) : Int), .int .u64 ((x.ct : Nat) : Int), .int .u64 ((x.rk : Nat) : Int), .int .u64 ((x.lf : Nat) : Int), .int .i64 ((x.sz : Nat) : Int), .string x.sd, .string x.rv, .bool (x.fi), .bool (opU x.su x.rv i c), .int .u64 ((x.nx : Nat) : Int)])) 78⟩, ⟨wd, .cells (av 3 (ls [.int .u64 ((x.sz : Nat) : Int), .int .u64 ((y.1 : Nat) : Int), .slice (some ⟨k, 0, none⟩) (nW x.sz) (nW x.sz)])) 123⟩, ⟨k, .cells (av (nW x.sz) (w64 y.2)) 33⟩]) (fun y : Nat × (Nat → Int) => Inv x.sz y.1 y.2 (opQ x.sz x.q x.rv i c) ∧ y.1 < 18446744073709551616) (fun _ => by kernel_rfl) (fun w hL hT => c_topen hs hh I hi w hL hT) ?_
  rintro ⟨h2, m2⟩ u3 ⟨I2, hh2⟩ M
  replace M : Mem ⟨w, [p, e, wd, k, md]⟩ [⟨p, .cells (av 1 (ls [.pointer (some ⟨e, 0, none⟩)])) 72⟩, ⟨e, .cells (av 12 (ls [.pointer (some ⟨wd, 0, none⟩), .func (.func 67) #[] #[.pointer (some ⟨md, 0, none⟩)], .int .u64 ((x.rc : Nat) : Int), .int .u64 ((x.ct : Nat) : Int), .int .u64 ((x.rk : Nat) : Int), .int .u64 ((x.lf : Nat) : Int), .int .i64 ((x.sz : Nat) : Int), .string x.sd, .string x.rv, .bool (x.fi), .bool (opU x.su x.rv i c), .int .u64 ((x.nx : Nat) : Int)])) 78⟩, ⟨wd, .cells (av 3 (ls [.int .u64 ((x.sz : Nat) : Int), .int .u64 (h2 : Int), .slice (some ⟨k, 0, none⟩) (nW x.sz) (nW x.sz)])) 123⟩, ⟨k, .cells (av (nW x.sz) (w64 m2)) 33⟩, ⟨md, .cells (av 1 (ls [.int .u64 ((x.mt : Nat) : Int)])) 33⟩] u3 := by simpa only [List.append_assoc, List.cons_append, List.nil_append, List.append_nil] using M
  refine rV 4 <| nT <| wp_ret ?_
  have e0 : x.oF n i = (opF x.sd x.ct x.lf x.sz x.mt x.q n i) := rfl
  exact bodyPost_ret (v := .tuple #[.string (opC x.rv i c), .int .i64 (opZ x.rv i c)]) (results_tmp2 Tryz.results10 _ _ _ _ (by kernel_rfl) (by kernel_rfl)) (by kernel_rfl) ⟨(h2, m2), by unfold TS.oC TS.oE; rw [e0, if_pos c0, if_pos c0], by unfold TS.oX; rw [e0, if_pos c0]; exact ⟨I2, hh2⟩, by unfold TS.oX; rw [e0, if_pos c0]; exact M.okT0⟩
 ·refine pH 22 (.bool true) (jU ((opF x.sd x.ct x.lf x.sz x.mt x.q n i) = 0) (c0)) ?_
  refine nT <| cT <| sq <| wp_ret <| au_then_ret ?_
  have e0 : x.oF n i = (opF x.sd x.ct x.lf x.sz x.mt x.q n i) := rfl
  exact bodyPost_ret (v := .tuple #[.string ⟨#[]⟩, .int .i64 (opF x.sd x.ct x.lf x.sz x.mt x.q n i)]) (results_tmp2 Tryz.results10 _ _ _ _ (by kernel_rfl) (by kernel_rfl)) (by kernel_rfl) ⟨(h, m), by unfold TS.oC TS.oE; rw [e0, if_neg c0, if_neg c0], by unfold TS.oX; rw [e0, if_neg c0]; exact ⟨I, hh⟩, by unfold TS.oX; rw [e0, if_neg c0]; exact M.okT0⟩
open Go.RowKit
theorem a_Sure {p : Nat} {x : TS} {T : List Blk} (hI : IsT p x T) (w : World) (hL : Laid w) (hT : There w T) : Cs 9 #[.pointer (some ⟨p, 0, none⟩)] w (.bool x.su) := by
 obtain ⟨e, wd, k, md, h, m, rfl, I, hh⟩ := hI.out
 exact c_TSure w hL hT
theorem sX_same (x : TS) (n : Nat) (s : Yb) : (x.sX n s).sz = x.sz ∧ (x.sX n s).q = x.q ∧ (x.sX n s).ct = x.ct := by
 unfold TS.sX
 split <;> exact ⟨rfl, rfl, rfl⟩
theorem a_Seal {p : Nat} {x : TS} {T : List Blk} {n : Nat} {s : Yb} (hI : IsT p x T) (ok : x.Ok) (hn : n < 18446744073709551616) (w : World) (hL : Laid w) (hT : There w T) : Calls Tryz.prog 8 #[.pointer (some ⟨p, 0, none⟩), .int .u64 (n : Int), .string s] w fun r w' => ∃ T', r = .returned (.tuple #[.int .u64 ((x.sN n s : Nat) : Int), .string (x.sC n s), .int .i64 (x.sE n s)]) ∧ IsT p (x.sX n s) T' ∧ OkT w w' T T' := by
 obtain ⟨e, wd, k, md, h, m, rfl, I, hh⟩ := hI.out
 have hx := ok.n
 have hc := ok.c
 obtain ⟨h1, h2, _⟩ := sX_same x n s
 exact (c_TSeal hn (by omega) w hL hT).mono fun _ _ ⟨he, hk⟩ => ⟨_, he, ⟨e, wd, k, md, h, m, rfl, by rw [h1, h2]; exact I, hh⟩, hk⟩
theorem a_Open {p : Nat} {x : TS} {T : List Blk} {n i : Nat} {c : Yb} (hI : IsT p x T) (ok : x.Ok) (hn : n < 18446744073709551616) (hi : i < 18446744073709551616) (w : World) (hL : Laid w) (hT : There w T) : Calls Tryz.prog 10 #[.pointer (some ⟨p, 0, none⟩), .int .u64 (n : Int), .int .u64 (i : Int), .string c] w fun r w' => ∃ T', r = .returned (.tuple #[.string (x.oC n i c), .int .i64 (x.oE n i c)]) ∧ IsT p (x.oX n i c) T' ∧ OkT w w' T T' := by
 obtain ⟨e, wd, k, md, h, m, rfl, I, hh⟩ := hI.out
 exact (c_TOpen hn hi ok.s1 hh I w hL hT).mono fun _ _ ⟨y, he, ⟨h1, h2⟩, hk⟩ => ⟨_, he, ⟨e, wd, k, md, y.1, y.2, rfl, h1, h2⟩, hk⟩
theorem ne_empty {s : Yb} {n : Nat} (h : s.size = n) (hn : n ≠ 0) : s ≠ ⟨#[]⟩ := fun e => hn (by rw [← h, e]; rfl)
theorem ov_no {x : TS} {n : Nat} (h1 : x.sd.size = 32) (h2 : n - x.mt < x.lf) : x.ov n = false := decide_eq_false (by
 rintro (h | h)
 ·exact ne_empty h1 (by decide) h
 ·omega)
theorem sF_ok {x : TS} {n : Nat} (h1 : x.ov n = false) (h3 : x.nx < x.ct) (h4 : x.su = true) : x.sF n = 0 := by
 unfold TS.sF slF
 unfold TS.ov at h1
 rw [h1, if_neg (by decide), if_neg (by omega), if_pos h4]
theorem slZ_ok {sd s : Yb} {nx : Nat} (h : sd.size = 32) (hs : s.size ≤ 65536) : slZ sd nx s = 0 := sf_ok ⟨h, nS_size _⟩ (Nat.zero_le _) (by omega) (Nat.zero_le _)
theorem s_ok {p : Nat} {x : TS} {T : List Blk} {n : Nat} {s : Yb} (hI : IsT p x T) (ok : x.Ok) (hn : n < 18446744073709551616) (h1 : x.sd.size = 32) (h2 : n - x.mt < x.lf) (h3 : x.nx < x.ct) (h4 : x.su = true) (h5 : s.size ≤ 65536) (w : World) (hL : Laid w) (hT : There w T) : Calls Tryz.prog 8 #[.pointer (some ⟨p, 0, none⟩), .int .u64 (n : Int), .string s] w fun r w' => ∃ T', r = .returned (.tuple #[.int .u64 ((x.nx : Nat) : Int), .string (sealS x.sd (nS (x.nx : Int)) ⟨#[]⟩ s), .int .i64 0]) ∧ IsT p { x with nx := x.nx + 1 } T' ∧ OkT w w' T T' := by
 have e0 := sF_ok (ov_no h1 h2) h3 h4
 have e1 := slZ_ok (nx := x.nx) h1 h5
 have h := a_Seal (s := s) hI ok hn w hL hT
 unfold TS.sN TS.sC TS.sE TS.sX slN slC slX at h
 rw [if_pos e0, if_pos e0, if_pos e0, if_pos e0, if_pos e1, if_pos e1, if_pos e1, e1] at h
 exact h
theorem s_no {p : Nat} {x : TS} {T : List Blk} {n : Nat} {s : Yb} (hI : IsT p x T) (ok : x.Ok) (hn : n < 18446744073709551616) (h1 : x.sd.size = 32) (h2 : n - x.mt < x.lf) (h3 : x.nx < x.ct) (h4 : x.su = false) (w : World) (hL : Laid w) (hT : There w T) : Calls Tryz.prog 8 #[.pointer (some ⟨p, 0, none⟩), .int .u64 (n : Int), .string s] w fun r w' => ∃ T', r = .returned (.tuple #[.int .u64 0, .string ⟨#[]⟩, .int .i64 3]) ∧ IsT p x T' ∧ OkT w w' T T' := by
 have e0 : x.sF n = 3 := by
  have h5 := ov_no h1 h2
  unfold TS.ov at h5
  unfold TS.sF slF
  rw [h5, if_neg (by decide), if_neg (by omega), h4]
  rfl
 have e1 : ¬ (3 : Int) = 0 := by decide
 have h := a_Seal (s := s) hI ok hn w hL hT
 unfold TS.sN TS.sC TS.sE TS.sX at h
 rw [e0, if_neg e1, if_neg e1, if_neg e1, if_neg e1] at h
 exact h
theorem oF_ok {x : TS} {n i : Nat} (h1 : x.ov n = false) (h3 : i < x.ct) : x.oF n i = my x.sz x.q i := by
 unfold TS.oF opF
 unfold TS.ov at h1
 rw [h1, if_neg (by decide), if_neg (by omega)]
theorem opZ_seal {rv s : Yb} {i : Nat} (h : rv.size = 32) (hs : s.size ≤ 65536) : opZ rv i (sealS rv (nS (i : Int)) ⟨#[]⟩ s) = 0 := by
 unfold opZ
 rw [if_pos (seal_ok (slZ_ok (nx := i) h hs)), if_pos (seal_tg _ _ _ _)]
theorem mk_yes' {s n : Nat} {l : List Nat} (h : my s l n = 0) : mk s l n = l ++ [n] := by
 unfold mk
 rw [if_pos h]
theorem o_ok {p : Nat} {x : TS} {T : List Blk} {n i : Nat} {s : Yb} (hI : IsT p x T) (ok : x.Ok) (hn : n < 18446744073709551616) (hi : i < 18446744073709551616) (h1 : x.sd.size = 32) (hr : x.rv.size = 32) (h2 : n - x.mt < x.lf) (h3 : i < x.ct) (h4 : my x.sz x.q i = 0) (h5 : s.size ≤ 65536) (w : World) (hL : Laid w) (hT : There w T) : Calls Tryz.prog 10 #[.pointer (some ⟨p, 0, none⟩), .int .u64 (n : Int), .int .u64 (i : Int), .string (sealS x.rv (nS (i : Int)) ⟨#[]⟩ s)] w fun r w' => ∃ T', r = .returned (.tuple #[.string s, .int .i64 0]) ∧ IsT p { x with su := true, q := x.q ++ [i] } T' ∧ OkT w w' T T' := by
 have e0 : x.oF n i = 0 := by rw [oF_ok (ov_no h1 h2) h3, h4]
 have e1 := opZ_seal (i := i) hr h5
 have h := a_Open (i := i) (c := sealS x.rv (nS (i : Int)) ⟨#[]⟩ s) hI ok hn hi w hL hT
 unfold TS.oC TS.oE TS.oX opC opU opQ at h
 rw [if_pos e0, if_pos e0, if_pos e0, if_pos e1, if_pos e1, if_pos e1, e1, seal_op, mk_yes' h4] at h
 exact h
theorem o_no {p : Nat} {x : TS} {T : List Blk} {n i : Nat} {c : Yb} (hI : IsT p x T) (ok : x.Ok) (hn : n < 18446744073709551616) (hi : i < 18446744073709551616) (h1 : x.sd.size = 32) (h2 : n - x.mt < x.lf) (h3 : i < x.ct) (h4 : ¬ my x.sz x.q i = 0) (w : World) (hL : Laid w) (hT : There w T) : Calls Tryz.prog 10 #[.pointer (some ⟨p, 0, none⟩), .int .u64 (n : Int), .int .u64 (i : Int), .string c] w fun r w' => ∃ T', r = .returned (.tuple #[.string ⟨#[]⟩, .int .i64 (my x.sz x.q i)]) ∧ IsT p x T' ∧ OkT w w' T T' := by
 have e0 : x.oF n i = my x.sz x.q i := oF_ok (ov_no h1 h2) h3
 have h := a_Open (i := i) (c := c) hI ok hn hi w hL hT
 unfold TS.oC TS.oE TS.oX at h
 rw [e0, if_neg h4, if_neg h4, if_neg h4] at h
 exact h
open Go.RowKit
def InfoK (P : Program) (e : TypeId) (K : Nat) (zv : Value) : Prop := ∃ i, P.info? e = some i ∧ i.zero = some zv ∧ i.size = K ∧ i.bytes ≤ 64
theorem infoK {P : Program} {e : TypeId} {K : Nat} {zv : Value} {b : Nat} (h1 : (P.info? e).map (·.zero) = some (some zv)) (h2 : (P.info? e).map (·.size) = some K) (h3 : (P.info? e).map (·.bytes) = some b) (hb : b ≤ 64) : InfoK P e K zv := by
 cases h : P.info? e with
 | none => rw [h] at h2; cases h2
 | some i =>
  rw [h] at h1 h2 h3
  simp only [Option.map_some, Option.some.injEq] at h1 h2 h3
  exact ⟨i, h, h1, h2, by omega⟩
structure SlV (K : Nat) (l : List Value) (n : Nat) (v : Value) (T : List Blk) : Prop where
 len : l.length = n * K
 ex : (n = 0 ∧ v = .slice none 0 0 ∧ T = []) ∨ ∃ g cap Z, 0 < n ∧ v = .slice (some ⟨g, 0, none⟩) n cap ∧ n ≤ cap ∧ SB Z (cap * K) l ∧ T = [⟨g, Z⟩]
theorem slv_nil (K : Nat) : SlV K [] 0 (.slice none 0 0) [] := ⟨by simp, .inl ⟨rfl, rfl, rfl⟩⟩
theorem slv_one {K : Nat} {l : List Value} {n : Nat} {v : Value} {T : List Blk} (h : SlV K l n v T) : v.oneCell' = true := by
 rcases h.ex with ⟨_, rfl, _⟩ | ⟨_, _, _, _, rfl, _⟩ <;> rfl
theorem slv_cells {K : Nat} {l : List Value} {n : Nat} {v : Value} {T : List Blk} (h : SlV K l n v T) : v.cells = #[v] := by
 rcases h.ex with ⟨_, rfl, _⟩ | ⟨_, _, _, _, rfl, _⟩ <;> rfl
theorem Mem.fetch {c : Ctx} {L pre suf : List Blk} {b : Blk} {W : World} (M : Mem c L W) (hp : L = pre ++ ([b] ++ suf)) : Mem c (b :: (pre ++ suf)) W := by
 subst hp
 exact M.perm List.perm_middle
section
variable {P : Program} {ops : Array Oper} {rest : List Oper} {o : Oper} {a : Act} {w : World} {c : Ctx} {L : List Blk} {Q : Exit → Act → World → Prop}
theorem pl_appS (M : Mem c L w) (hw : Region.wanted o (yielded ops a.tmps) = true) (d : Option Tmp) (hd : o.dst = d) (t ty e : TypeId) (K : Nat) (zv : Value) (ht : P.underlying t = some (.slice e)) (hin : InfoK P e K zv) (hzc : zv.cells.size = K) (pre T suf : List Blk) (hp : L = pre ++ (T ++ suf)) (sv : Value) (n : Nat) (l : List Value) (hS : SlV K l n sv T) (hle : n < 1000000) (j gx Tx : Nat) (F : NV) (hj : L[j]? = some ⟨gx, .cells (av K F) Tx⟩) (h1 : ∀ k, k < K → (F k).oneCell' = true)
  (hrun : ∀ w, (execOp a.eval o).run P w = (do pure (Next.value (← Builtin.append_ #[t, t] ty #[sv, .slice (some ⟨gx, 0, none⟩) 1 1]))).run P w)
  (h : ∀ sv' T' w', SlV K (l ++ (List.range K).map F) (n + 1) sv' T' → Mem c (pre ++ (T' ++ suf)) w' → PL P ops Q rest (a.put d sv') w') : PL P ops Q (o :: rest) a w := by
 obtain ⟨info, i1, i2, i3, i4⟩ := hin
 subst i3
 have hnl : ((List.range info.size).map F).length = info.size := by simp
 have hR := M.get j hj
 have hnews : ∀ k u, ((List.range info.size).map F)[k]? = some u → w.cell? ((⟨gx, 0, none⟩ : Addr).add k) = some u := fun k u hu => by
  have hk : k < info.size := by simpa using (List.getElem?_eq_some_iff.1 hu).1
  rw [add_at, Nat.zero_add, cell_av hR hk]
  rw [List.getElem?_map, List.getElem?_range hk] at hu
  exact hu
 have hone : ∀ u ∈ (List.range info.size).map F, u.oneCell' = true := fun u hu => by
  obtain ⟨k, hk, rfl⟩ := List.mem_map.1 hu
  exact h1 k (List.mem_range.1 hk)
 have hsrc : Src P info.size t (.slice (some ⟨gx, 0, none⟩) 1 1) 1 ((List.range info.size).map F) w := Src.ofSlice w ht ⟨gx, 0, none⟩ 1 1 _ (by rw [hnl, Nat.one_mul]) hnews hone
 have hlen := hS.len
 have grow : ∀ (base : Option Addr) (cap : Nat), sv = .slice base n cap → ¬ n < cap → n ≤ cap → (Builtin.firstCells info.size n (.slice base n cap)).run P w.drew = .ok l.toArray w.drew → PL P ops Q (o :: rest) a w := fun base cap hsv hroom hnc hold => by
  have hr := run_append_grow_src (P := P) w t t ty e info zv ht i1 i2 base n cap l hold (.slice (some ⟨gx, 0, none⟩) 1 1) 1 _ hsrc (by omega) (by omega) (growslice_fits (by omega) (by
    have := Nat.mul_le_mul (show n + 1 ≤ 1000000 by omega) i4
    omega))
  have hge := grownCap_ge w (n + 1) cap e
  generalize grownCap w (n + 1) cap e = nc at hr hge
  have hr2 : (execOp a.eval o).run P w = .ok (.value (.slice (some ⟨w.heap.size, 0, none⟩) (n + 1) nc)) (w.drew.alloc (.cells ((l ++ (List.range info.size).map F).toArray ++ Builtin.zeroCells zv.cells (nc - (n + 1))) e)) := by
   rw [hrun, hsv]
   simp only [Sem.run_bind, hr, Result.andThen_ok, Sem.run_pure]
  have hll : (l ++ (List.range info.size).map F).length = (n + 1) * info.size := by rw [List.length_append, hnl, hlen, Nat.succ_mul]
  obtain ⟨q, rfl⟩ : ∃ q, nc = n + 1 + q := ⟨nc - (n + 1), by omega⟩
  have hsz : ((l ++ (List.range info.size).map F).toArray ++ Builtin.zeroCells zv.cells (n + 1 + q - (n + 1))).size = (n + 1 + q) * info.size := by
   rw [Array.size_append, List.size_toArray, hll, size_zeroCells, hzc, Nat.add_sub_cancel_left, ← Nat.add_mul]
  have hcm : (n + 1) * info.size ≤ (n + 1 + q) * info.size := Nat.mul_le_mul_right _ (by omega)
  refine pl_to hw d hd _ _ hr2 (h _ [⟨w.heap.size, _⟩] _ ⟨hll, .inr ⟨w.heap.size, n + 1 + q, _, by omega, rfl, by omega, ⟨_, e, (0, 0), rfl, by rw [hll]; exact hcm, by rw [hsz]; exact Nat.le_refl _, fun k hk => ?_, fun k _ => by simp⟩, rfl⟩⟩ (M.drew.mid hp ⟨grown_below (new_below w.drew _) _, ?_, by simp, by simp⟩))
  ·rw [Array.getElem?_append_left (by simpa using hk)]
   simp
  ·simpa using heap_alloc_new w.drew _
 rcases hS.ex with ⟨hn0, hv, rfl⟩ | ⟨g, cap, Z, hn0, hv, hnc, hs, rfl⟩
 ·subst hn0
  have hl0 : l = [] := List.length_eq_zero_iff.1 (by simpa using hlen)
  subst hl0
  exact grow none 0 hv (by omega) (by omega) (run_firstCells_none w.drew info.size 0 0 0)
 ·have hz : w.heap[g]? = some Z := (M.thereM hp).at_ ⟨g, Z⟩ (by simp)
  by_cases hroom : n < cap
  ·obtain ⟨cs, T, fr, hZ, h4, h5, h6, h7⟩ := hs.ex
   have hcm : n * info.size + info.size ≤ cap * info.size := by rw [← Nat.succ_mul]; exact Nat.mul_le_mul_right _ hroom
   obtain ⟨Z', h2, h3⟩ := hs.sets ((List.range info.size).map F) (by rw [hnl, hlen]; exact hcm) hz
   have hg := hz
   rw [hZ] at hg
   have hr := run_append_room_src (P := P) w t t ty e info ht i1 g 0 n cap (.slice (some ⟨gx, 0, none⟩) 1 1) 1 _ hsrc hroom (fun k hk => by
     rw [hnl] at hk
     rw [Nat.zero_add]
     unfold World.cell?
     rw [hg]
     simp
     omega) (fun k hk => by
     rw [hnl] at hk
     rw [Nat.zero_add]
     unfold World.frozen?
     rw [hg]
     exact h7 _ (by show n * info.size + k < cap * info.size; omega))
   rw [Nat.zero_add, ← hlen] at hr
   have hr2 : (execOp a.eval o).run P w = .ok (.value (.slice (some ⟨g, 0, none⟩) (n + 1) cap)) (w.setCells g l.length ((List.range info.size).map F)) := by
    rw [hrun, hv]
    simp only [Sem.run_bind, hr, Result.andThen_ok, Sem.run_pure]
   exact pl_to hw d hd _ _ hr2 (h _ [⟨g, Z'⟩] _ ⟨by rw [List.length_append, hnl, hlen, Nat.succ_mul], .inr ⟨g, cap, Z', by omega, rfl, by omega, h3, rfl⟩⟩ (M.mid hp ⟨grown_setCells g _ _ _, by simpa using h2, by simp, by simp⟩))
  ·exact grow _ cap hv hroom hnc (run_firstCells_some w.drew info.size n ⟨g, 0, none⟩ n cap l hlen (fun k u hu => by rw [add_at, Nat.zero_add]; exact hs.cell (W := w.drew) hz hu))
end
open Go.RowKit
theorem c_BeginG (a b e pr pl : Yb) (ha : a.size = 32) (he : e.size = 32) (hp : pr.size ≤ 4096) (hl : pl.size ≤ 4096) (w : World) (hL : Laid w) : Calls Tryz.prog 16 #[.string a, .string (puV b), .string e, .string pr, .string pl] w fun r w' => ∃ g, r = .returned (.tuple #[.pointer (some ⟨g, 0, none⟩), .string (tMs a (puV b) e pr pl), .int .i64 0]) ∧ w.heap.size ≤ g ∧ w'.heap[g]? = some (.cells (av 7 (stL (endF (tS5 a (puV b) e pr pl)) [.string a, .string e, .string (puV b)])) 89) ∧ Below w.heap.size w w' := by
 refine (c_Begin a (puV b) e pr pl w hL).mono fun r w' h => ?_
 obtain ⟨hb, ⟨h1, _⟩ | ⟨_, g, h2, h3, h4⟩⟩ := h
 ·exact absurd (begin_0 a b e pr pl ha he hp hl) h1
 ·rw [begin_m] at h2
  rw [begin_s] at h4
  exact ⟨g, h2, h3, h4, hb⟩
theorem c_ReadO (b pr m : Yb) (h : rdE b pr m = 0) (w : World) (hL : Laid w) : Calls Tryz.prog 17 #[.string b, .string pr, .string m] w fun r w' => ∃ g, r = .returned (.tuple #[.pointer (some ⟨g, 0, none⟩), .agg (av 5 (sQ [rF b pr m, rP b pr m, zb, zb, zb])), .int .i64 0]) ∧ w.heap.size ≤ g ∧ w'.heap[g]? = some (.cells (av 6 (stL (endF (rS5 b pr m)) [.string (rF b pr m), .string (rE m)])) 94) ∧ Below w.heap.size w w' := by
 refine (c_Read b pr m w hL).mono fun r w' k => ?_
 obtain ⟨hb, ⟨h1, _⟩ | ⟨_, g, h2, h3, h4⟩⟩ := k
 ·exact absurd h h1
 ·exact ⟨g, h2, h3, h4, hb⟩
theorem c_ReadG (a b e pr pl : Yb) (hb : b.size = 32) (hp : pr.size ≤ 4096) (hl : pl.size ≤ 4096) (w : World) (hL : Laid w) : Calls Tryz.prog 17 #[.string b, .string pr, .string (tMs a (puV b) e pr pl)] w fun r w' => ∃ g, r = .returned (.tuple #[.pointer (some ⟨g, 0, none⟩), .agg (av 5 (sQ [puV a, pl, zb, zb, zb])), .int .i64 0]) ∧ w.heap.size ≤ g ∧ w'.heap[g]? = some (.cells (av 6 (stL (endF (tS5 a (puV b) e pr pl)) [.string (puV a), .string (puV e)])) 94) ∧ Below w.heap.size w w' := by
 have h := c_ReadO b pr (tMs a (puV b) e pr pl) (read_0 a b e pr pl hb hp hl) w hL
 rwa [read_f, read_p, read_s, tMs_E] at h
theorem c_AnswerG (g : Nat) (s : St) (a e f pl : Yb) (hs : s.h.size = 32) (h0 : s.e = 0) (hf : f.size = 32) (hl : pl.size ≤ 4096) (w : World) (hL : Laid w) (hg : w.heap[g]? = some (.cells (av 6 (stL s [.string (puV a), .string (puV e)])) 94)) (hn : 2 < g) : Cs 18 #[.pointer (some ⟨g, 0, none⟩), .string f, .string pl] w (.tuple #[.string (vRp s (puV a) (puV e) f pl), .agg (av 5 (sQ [puV a, zb, nxB (vS4 s (puV a) (puV e) f pl).c ⟨#[]⟩, nxA (vS4 s (puV a) (puV e) f pl).c ⟨#[]⟩, (vS4 s (puV a) (puV e) f pl).h])), .int .i64 0]) := by
 refine (c_Answer g s (puV a) (puV e) f pl hs (puV_size a) (puV_size e) w hL hg hn).mono fun r w' k => ?_
 obtain ⟨hb, ⟨h1, _⟩ | ⟨_, h2⟩⟩ := k
 ·exact absurd (answer_0 a e f pl h0 hf hl) h1
 ·rw [answer_r _ _ _ _ h0, answer_s _ _ _ _ h0] at h2
  exact ⟨h2, hb⟩
theorem c_FinishG (g : Nat) (s : St) (a e b f pl : Yb) (hs : s.h.size = 32) (h0 : s.e = 0) (ha : a.size = 32) (he : e.size = 32) (hl : pl.size ≤ 4096) (w : World) (hL : Laid w) (hg : w.heap[g]? = some (.cells (av 7 (stL s [.string a, .string e, .string b])) 89)) (hn : 2 < g) : Cs 19 #[.pointer (some ⟨g, 0, none⟩), .string (vRp s (puV a) (puV e) f pl)] w (.tuple #[.agg (av 5 (sQ [b, pl, nxA (vS4 s (puV a) (puV e) f pl).c ⟨#[]⟩, nxB (vS4 s (puV a) (puV e) f pl).c ⟨#[]⟩, (vS4 s (puV a) (puV e) f pl).h])), .int .i64 0]) := by
 refine (c_Finish g s a e b (vRp s (puV a) (puV e) f pl) hs ha he w hL hg hn).mono fun r w' k => ?_
 obtain ⟨hb, ⟨h1, _⟩ | ⟨_, h2⟩⟩ := k
 ·exact absurd (finish_0 a e f pl h0 hl) h1
 ·rw [finish_s _ _ _ _ h0, finish_p _ _ _ _ h0] at h2
  exact ⟨h2, hb⟩
def keS (c : Int) : ByteArray := bs (List.replicate 31 0 ++ [c])
theorem bs_app (l m : List Int) : bs l ++ bs m = bs (l ++ m) := by
 unfold bs
 apply ByteArray.ext
 rw [ByteArray.data_append, List.map_append, List.append_toArray]
theorem keS_size (c : Int) : (keS c).size = 32 := by
 unfold keS
 rw [bs_size]
 simp
theorem ker (c : Int) (h0 : 0 ≤ c) (h1 : c < 256) : ∀ x ∈ [c], 0 ≤ x ∧ x < 256 := fun x hx => by
 rw [List.mem_singleton.1 hx]
 exact ⟨h0, h1⟩
theorem tS5_h (a b e pr pl : Yb) : (endF (tS5 a b e pr pl)).h.size = 32 := mixF_h (tS4 a b e pr) (tX2 a b e pr pl)
open Go.RowKit
def hsS (a b e : Yb) : St := endF (tS5 a (puV b) e ⟨#[105, 115, 116, 104, 109, 117, 115]⟩ ⟨#[]⟩)
def hkA (a b e f : Yb) : ByteArray := nxA (vS4 (hsS a b e) (puV a) (puV e) f ⟨#[]⟩).c ⟨#[]⟩
def hkB (a b e f : Yb) : ByteArray := nxB (vS4 (hsS a b e) (puV a) (puV e) f ⟨#[]⟩).c ⟨#[]⟩
theorem hkA_size (a b e f : Yb) : (hkA a b e f).size = 32 := nxA_size _ _
theorem hkB_size (a b e f : Yb) : (hkB a b e f).size = 32 := nxB_size _ _
theorem z31 : ∀ x ∈ List.replicate 31 (0 : Int), 0 ≤ x ∧ x < 256 := fun x hx => by
 rw [List.eq_of_mem_replicate hx]
 decide
theorem sb_z : SB (.cells (av 31 (w8 fun _ => 0)) 5) 31 (vs8 (List.replicate 31 0)) := by
 refine ⟨_, 5, (0, 0), rfl, by simp [vs8], by rw [av_size]; exact Nat.le_refl _, fun i hi => ?_, fun i _ => by simp⟩
 rw [vs8_length, List.length_replicate] at hi
 rw [av_get _ _ _ hi]
 unfold vs8 w8
 rw [List.getElem?_map, List.getElem?_replicate, if_pos hi]
 rfl
theorem sb_one (c : Int) : SB (.cells (av 1 (fun _ => .int .u8 c)) 5) 1 (vs8 [c]) := by
 refine ⟨_, 5, (0, 0), rfl, by simp [vs8], by rw [av_size]; exact Nat.le_refl _, fun i hi => ?_, fun i _ => by simp⟩
 obtain rfl : i = 0 := by rw [vs8_length] at hi; exact Nat.lt_one_iff.1 hi
 rw [av_get _ _ _ (by decide)]
 rfl
theorem c_secret (c_ : Int) (h0 : 0 ≤ c_) (h1 : c_ < 256) (w : World) (hL : Laid w)  : Cs 14 #[.int .u8 c_] w (.string (keS c_)) := by
 go_enter Tryz.func14, Tryz.ntmps14
 have M := Mem.start hL
 refine sq <| wp_seq ?_
 refine rg_held M [] 6 rfl (by kernel_rfl) (by kernel_rfl) (fun _ _ d _ _ h => by cases d <;> exact h) fun u1 M => ?_
 replace M : Mem ⟨w, []⟩ [] u1 := M
 refine qV M 2 5 (.int .u8 c_) ?_
 refine hl_name ?_
 intro H hA hB
 have s9 : ∀ (a : Act) (l : Array Bool) (x_3 x_6 : Value) (w0 : World), a = (fm ([.int .u8 c_, undef, .string ⟨#[]⟩, x_3, .string (bs (List.replicate 31 0)), .int .u8 c_, x_6, .string (bs [c_]), .string ((bs (List.replicate 31 0)) ++ (bs [c_]))])) → l = #[true, true, true, true, true, true, false] → Mem ⟨w, []⟩ [] w0 → H 1 l a w0 := by
  intro a l  x_3 x_6 u0 ha hl M
  subst ha hl
  refine hB _ _ _ _ ?_
  refine hl_end (by kernel_rfl) (by kernel_rfl) rfl ?_
  refine rV 1 <| nT <| au_then <| wp_ret ?_
  exact bodyPost_ret (v := .string ((bs (List.replicate 31 0)) ++ (bs [c_]))) (results_tmp1 Tryz.results14 _ _ _ (by kernel_rfl)) (by kernel_rfl) ⟨by rw [bs_app]; rfl, below_grown M.old⟩
 have s7 : ∀ (a : Act) (l : Array Bool) (g2 : Nat) (x_3 : Value) (w0 : World), a = (fm ([.int .u8 c_, undef, .string ⟨#[]⟩, x_3, .string (bs (List.replicate 31 0)), .int .u8 c_, .slice (some ⟨g2, 0, none⟩) 1 1, undef, undef])) → l = #[true, true, true, true, false, false, false] → Mem ⟨w, []⟩ [⟨g2, .cells (av 1 (ls [.int .u8 c_])) 5⟩] w0 → H 3 l a w0 := by
  intro a l g2 x_3 u0 ha hl M
  subst ha hl
  refine hB _ _ _ _ ?_
  refine hl_one 4 (by decide) (by kernel_rfl) rfl ?_
  refine pl_back M (want_no rfl) (some 7) rfl _ rfl 0 g2 1 1 (by kernel_rfl) _ rfl [c_] 1 (sb_one _) (by simp) (ker c_ h0 h1) ?_
  refine nT ?_
  refine ⟨(M.drop (.cons _ (.slnil))), ?_⟩
  refine hl_val (M.drop (.cons _ (.slnil))) 5 rfl (by decide) (by kernel_rfl) (by kernel_rfl) (want_no rfl) (some 8) rfl (.string ((bs (List.replicate 31 0)) ++ (bs [c_]))) (fun w _ => (run_cat 9 9 _ _ rfl (bs (List.replicate 31 0)) (bs [c_]) (by kernel_rfl) (by kernel_rfl) (by rw [bs_size, bs_size, List.length_replicate]; exact (by decide : 31 + 1 ≤ 9223372036854775807))) w) ?_
  exact hA _ _ _ _ (s9 _ _ (x_3) (.slice (some ⟨g2, 0, none⟩) 1 1) _ (by kernel_rfl) (by kernel_rfl) (M.drop (.cons _ (.slnil))))
 have s8 : ∀ (a : Act) (l : Array Bool) (g1 : Nat) (x_6 : Value) (w0 : World), a = (fm ([.int .u8 c_, undef, .string ⟨#[]⟩, .slice (some ⟨g1, 0, none⟩) 31 31, undef, .int .u8 c_, x_6, .string (bs [c_]), undef])) → l = #[true, false, true, true, true, false, false] → Mem ⟨w, []⟩ [⟨g1, .cells (av 31 (w8 fun _ => 0)) 5⟩] w0 → H 3 l a w0 := by
  intro a l g1 x_6 u0 ha hl M
  subst ha hl
  refine hB _ _ _ _ ?_
  refine hl_one 1 (by decide) (by kernel_rfl) rfl ?_
  refine pl_back M (want_no rfl) (some 4) rfl _ rfl 0 g1 31 31 (by kernel_rfl) _ rfl (List.replicate 31 0) 31 sb_z (by simp) z31 ?_
  refine nT ?_
  refine ⟨(M.drop (.cons _ (.slnil))), ?_⟩
  refine hl_val (M.drop (.cons _ (.slnil))) 5 rfl (by decide) (by kernel_rfl) (by kernel_rfl) (want_no rfl) (some 8) rfl (.string ((bs (List.replicate 31 0)) ++ (bs [c_]))) (fun w _ => (run_cat 9 9 _ _ rfl (bs (List.replicate 31 0)) (bs [c_]) (by kernel_rfl) (by kernel_rfl) (by rw [bs_size, bs_size, List.length_replicate]; exact (by decide : 31 + 1 ≤ 9223372036854775807))) w) ?_
  exact hA _ _ _ _ (s9 _ _ (.slice (some ⟨g1, 0, none⟩) 31 31) (x_6) _ (by kernel_rfl) (by kernel_rfl) (M.drop (.cons _ (.slnil))))
 have s3 : ∀ (a : Act) (l : Array Bool) (x_3 : Value) (w0 : World), a = (fm ([.int .u8 c_, undef, .string ⟨#[]⟩, x_3, .string (bs (List.replicate 31 0)), .int .u8 c_] ++ und 3)) → l = #[true, true, true, false, false, false, false] → Mem ⟨w, []⟩ [] w0 → H 4 l a w0 := by
  intro a l  x_3 u0 ha hl M
  subst ha hl
  refine hB _ _ _ _ ?_
  refine hl_one 3 (by decide) (by kernel_rfl) rfl ?_
  refine ZM M 6 (fun g2 => .slice (some ⟨g2, 0, none⟩) 1 1) (.cells (av 1 (ls [.int .u8 c_])) 5) fun g2 u3 M => ?_
  replace M : Mem ⟨w, []⟩ [⟨g2, .cells (av 1 (ls [.int .u8 c_])) 5⟩] u3 := M
  refine nT ?_
  refine ⟨(M.drop (.cons _ (.slnil))), ?_⟩
  exact hA _ _ _ _ (s7 _ _ g2 (x_3) _ (by kernel_rfl) (by kernel_rfl) M)
 have s4 : ∀ (a : Act) (l : Array Bool) (g1 g2 : Nat) (w0 : World), a = (fm ([.int .u8 c_, undef, .string ⟨#[]⟩, .slice (some ⟨g1, 0, none⟩) 31 31, undef, .int .u8 c_, .slice (some ⟨g2, 0, none⟩) 1 1, undef, undef])) → l = #[true, false, true, true, false, false, false] → Mem ⟨w, []⟩ [⟨g1, .cells (av 31 (w8 fun _ => 0)) 5⟩, ⟨g2, .cells (av 1 (ls [.int .u8 c_])) 5⟩] w0 → H 4 l a w0 := by
  intro a l g1 g2  u0 ha hl M
  subst ha hl
  refine hB _ _ _ _ ?_
  refine hl_two 1 4 (by decide) (by decide) (by kernel_rfl) rfl rfl ?_ ?_
  ·refine pl_back M (want_no rfl) (some 4) rfl _ rfl 0 g1 31 31 (by kernel_rfl) _ rfl (List.replicate 31 0) 31 sb_z (by simp) z31 ?_
   refine nT ?_
   refine ⟨(M.drop (.cons _ (.cons _ (.slnil)))), ?_⟩
   exact hA _ _ _ _ (s7 _ _ g2 (.slice (some ⟨g1, 0, none⟩) 31 31) _ (by kernel_rfl) (by kernel_rfl) (M.drop (.cons _ (.cons_cons _ (.slnil)))))
  ·refine pl_back M (want_no rfl) (some 7) rfl _ rfl 1 g2 1 1 (by kernel_rfl) _ rfl [c_] 1 (sb_one _) (by simp) (ker c_ h0 h1) ?_
   refine nT ?_
   refine ⟨(M.drop (.cons _ (.cons _ (.slnil)))), ?_⟩
   exact hA _ _ _ _ (s8 _ _ g1 (.slice (some ⟨g2, 0, none⟩) 1 1) _ (by kernel_rfl) (by kernel_rfl) (M.drop (.cons_cons _ (.cons _ (.slnil)))))
 have s5 : ∀ (a : Act) (l : Array Bool) (g1 g2 : Nat) (w0 : World), a = (fm ([.int .u8 c_, undef, .string ⟨#[]⟩, .slice (some ⟨g2, 0, none⟩) 31 31, undef, .int .u8 c_, .slice (some ⟨g1, 0, none⟩) 1 1, undef, undef])) → l = #[true, false, true, true, false, false, false] → Mem ⟨w, []⟩ [⟨g1, .cells (av 1 (ls [.int .u8 c_])) 5⟩, ⟨g2, .cells (av 31 (w8 fun _ => 0)) 5⟩] w0 → H 4 l a w0 := by
  intro a l g1 g2  u0 ha hl M
  subst ha hl
  refine hB _ _ _ _ ?_
  refine hl_two 1 4 (by decide) (by decide) (by kernel_rfl) rfl rfl ?_ ?_
  ·refine pl_back M (want_no rfl) (some 4) rfl _ rfl 1 g2 31 31 (by kernel_rfl) _ rfl (List.replicate 31 0) 31 sb_z (by simp) z31 ?_
   refine nT ?_
   refine ⟨(M.drop (.cons _ (.cons _ (.slnil)))), ?_⟩
   exact hA _ _ _ _ (s7 _ _ g1 (.slice (some ⟨g2, 0, none⟩) 31 31) _ (by kernel_rfl) (by kernel_rfl) (M.drop (.cons_cons _ (.cons _ (.slnil)))))
  ·refine pl_back M (want_no rfl) (some 7) rfl _ rfl 0 g1 1 1 (by kernel_rfl) _ rfl [c_] 1 (sb_one _) (by simp) (ker c_ h0 h1) ?_
   refine nT ?_
   refine ⟨(M.drop (.cons _ (.cons _ (.slnil)))), ?_⟩
   exact hA _ _ _ _ (s8 _ _ g2 (.slice (some ⟨g1, 0, none⟩) 1 1) _ (by kernel_rfl) (by kernel_rfl) (M.drop (.cons _ (.cons_cons _ (.slnil)))))
 have s6 : ∀ (a : Act) (l : Array Bool) (x_6 : Value) (w0 : World), a = (fm ([.int .u8 c_, undef, .string ⟨#[]⟩, undef, undef, .int .u8 c_, x_6, .string (bs [c_]), undef])) → l = #[false, false, true, true, true, false, false] → Mem ⟨w, []⟩ [] w0 → H 4 l a w0 := by
  intro a l  x_6 u0 ha hl M
  subst ha hl
  refine hB _ _ _ _ ?_
  refine hl_one 0 (by decide) (by kernel_rfl) rfl ?_
  refine ZM M 3 (fun g2 => .slice (some ⟨g2, 0, none⟩) 31 31) (.cells (av 31 (w8 fun _ => 0)) 5) fun g2 u3 M => ?_
  replace M : Mem ⟨w, []⟩ [⟨g2, .cells (av 31 (w8 fun _ => 0)) 5⟩] u3 := M
  refine nT ?_
  refine ⟨(M.drop (.cons _ (.slnil))), ?_⟩
  exact hA _ _ _ _ (s8 _ _ g2 (x_6) _ (by kernel_rfl) (by kernel_rfl) M)
 have s1 : ∀ (a : Act) (l : Array Bool) (g1 : Nat) (w0 : World), a = (fm ([.int .u8 c_, undef, .string ⟨#[]⟩, .slice (some ⟨g1, 0, none⟩) 31 31, undef, .int .u8 c_] ++ und 3)) → l = #[true, false, true, false, false, false, false] → Mem ⟨w, []⟩ [⟨g1, .cells (av 31 (w8 fun _ => 0)) 5⟩] w0 → H 5 l a w0 := by
  intro a l g1  u0 ha hl M
  subst ha hl
  refine hB _ _ _ _ ?_
  refine hl_two 1 3 (by decide) (by decide) (by kernel_rfl) rfl rfl ?_ ?_
  ·refine pl_back M (want_no rfl) (some 4) rfl _ rfl 0 g1 31 31 (by kernel_rfl) _ rfl (List.replicate 31 0) 31 sb_z (by simp) z31 ?_
   refine nT ?_
   refine ⟨(M.drop (.cons _ (.slnil))), ?_⟩
   exact hA _ _ _ _ (s3 _ _ (.slice (some ⟨g1, 0, none⟩) 31 31) _ (by kernel_rfl) (by kernel_rfl) (M.drop (.cons _ (.slnil))))
  ·refine ZM M 6 (fun g2 => .slice (some ⟨g2, 0, none⟩) 1 1) (.cells (av 1 (ls [.int .u8 c_])) 5) fun g2 u3 M => ?_
   replace M : Mem ⟨w, []⟩ [⟨g1, .cells (av 31 (w8 fun _ => 0)) 5⟩, ⟨g2, .cells (av 1 (ls [.int .u8 c_])) 5⟩] u3 := M
   refine nT ?_
   refine ⟨(M.drop (.cons _ (.cons _ (.slnil)))), ?_⟩
   exact hA _ _ _ _ (s4 _ _ g1 g2 _ (by kernel_rfl) (by kernel_rfl) M)
 have s2 : ∀ (a : Act) (l : Array Bool) (g1 : Nat) (w0 : World), a = (fm ([.int .u8 c_, undef, .string ⟨#[]⟩, undef, undef, .int .u8 c_, .slice (some ⟨g1, 0, none⟩) 1 1, undef, undef])) → l = #[false, false, true, true, false, false, false] → Mem ⟨w, []⟩ [⟨g1, .cells (av 1 (ls [.int .u8 c_])) 5⟩] w0 → H 5 l a w0 := by
  intro a l g1  u0 ha hl M
  subst ha hl
  refine hB _ _ _ _ ?_
  refine hl_two 0 4 (by decide) (by decide) (by kernel_rfl) rfl rfl ?_ ?_
  ·refine ZM M 3 (fun g2 => .slice (some ⟨g2, 0, none⟩) 31 31) (.cells (av 31 (w8 fun _ => 0)) 5) fun g2 u3 M => ?_
   replace M : Mem ⟨w, []⟩ [⟨g1, .cells (av 1 (ls [.int .u8 c_])) 5⟩, ⟨g2, .cells (av 31 (w8 fun _ => 0)) 5⟩] u3 := M
   refine nT ?_
   refine ⟨(M.drop (.cons _ (.cons _ (.slnil)))), ?_⟩
   exact hA _ _ _ _ (s5 _ _ g1 g2 _ (by kernel_rfl) (by kernel_rfl) M)
  ·refine pl_back M (want_no rfl) (some 7) rfl _ rfl 0 g1 1 1 (by kernel_rfl) _ rfl [c_] 1 (sb_one _) (by simp) (ker c_ h0 h1) ?_
   refine nT ?_
   refine ⟨(M.drop (.cons _ (.slnil))), ?_⟩
   exact hA _ _ _ _ (s6 _ _ (.slice (some ⟨g1, 0, none⟩) 1 1) _ (by kernel_rfl) (by kernel_rfl) (M.drop (.cons _ (.slnil))))
 have s0 : ∀ (a : Act) (l : Array Bool) (w0 : World), a = (fm ([.int .u8 c_, undef, .string ⟨#[]⟩, undef, undef, .int .u8 c_] ++ und 3)) → l = #[false, false, true, false, false, false, false] → Mem ⟨w, []⟩ [] w0 → H 6 l a w0 := by
  intro a l   u0 ha hl M
  subst ha hl
  refine hB _ _ _ _ ?_
  refine hl_two 0 3 (by decide) (by decide) (by kernel_rfl) rfl rfl ?_ ?_
  ·refine ZM M 3 (fun g1 => .slice (some ⟨g1, 0, none⟩) 31 31) (.cells (av 31 (w8 fun _ => 0)) 5) fun g1 u2 M => ?_
   replace M : Mem ⟨w, []⟩ [⟨g1, .cells (av 31 (w8 fun _ => 0)) 5⟩] u2 := M
   refine nT ?_
   refine ⟨(M.drop (.cons _ (.slnil))), ?_⟩
   exact hA _ _ _ _ (s1 _ _ g1 _ (by kernel_rfl) (by kernel_rfl) M)
  ·refine ZM M 6 (fun g1 => .slice (some ⟨g1, 0, none⟩) 1 1) (.cells (av 1 (ls [.int .u8 c_])) 5) fun g1 u2 M => ?_
   replace M : Mem ⟨w, []⟩ [⟨g1, .cells (av 1 (ls [.int .u8 c_])) 5⟩] u2 := M
   refine nT ?_
   refine ⟨(M.drop (.cons _ (.slnil))), ?_⟩
   exact hA _ _ _ _ (s2 _ _ g1 _ (by kernel_rfl) (by kernel_rfl) M)
 exact s0 _ _  _ (by kernel_rfl) (by kernel_rfl) M
theorem c_limits  (w : World) (hL : Laid w)  : Cs 7 #[] w (.agg (av 5 (ls [.int .u64 40, .int .u64 50, .int .u64 10, .int .u64 20, .int .i64 64]))) := by
 go_enter Tryz.func7, Tryz.ntmps7
 have M := Mem.start hL
 refine sR ?_
 refine pN M 0 (.cells (av 5 (ls [.int .u64 0, .int .u64 0, .int .u64 0, .int .u64 0, .int .i64 0])) 35) fun g1 u1 M => ?_
 replace M : Mem ⟨w, []⟩ [⟨g1, .cells (av 5 (ls [.int .u64 0, .int .u64 0, .int .u64 0, .int .u64 0, .int .i64 0])) 35⟩] u1 := M
 refine nT <| sR <| rV 1 ?_
 refine pl_put M (want_no rfl) rfl 35 _ _ rfl 0 g1 0 (by kernel_rfl) 5 35 (ls [.int .u64 0, .int .u64 0, .int .u64 0, .int .u64 0, .int .i64 0]) rfl 5 (ls [.int .u64 40, .int .u64 50, .int .u64 10, .int .u64 20, .int .i64 64]) (ls [.int .u64 40, .int .u64 50, .int .u64 10, .int .u64 20, .int .i64 64]) (by kernel_rfl) inz35 (by decide) (one_ls _ rfl) (fun j hj => by rw [if_pos (by omega), Nat.sub_zero]) fun u2 M => ?_
 replace M : Mem ⟨w, []⟩ [⟨g1, .cells (av 5 (ls [.int .u64 40, .int .u64 50, .int .u64 10, .int .u64 20, .int .i64 64])) 35⟩] u2 := M
 refine nT <| wp_ret ?_
 exact bodyPost_ret (v := .agg (av 5 (ls [.int .u64 40, .int .u64 50, .int .u64 10, .int .u64 20, .int .i64 64]))) (results_cell_row Tryz.results7 _ _ g1 35 (av 5 (ls [.int .u64 40, .int .u64 50, .int .u64 10, .int .u64 20, .int .i64 64])) (0, 0) _ (by kernel_rfl) (M.get 0 rfl) Tryz.underlying35 rfl (by rw [av_size]; exact inz35)) (by kernel_rfl) ⟨rfl, below_grown M.old⟩
theorem c_shaken {a b e f : Yb} (ha : a.size = 32) (hb : b.size = 32) (he : e.size = 32) (hf : f.size = 32) (w : World) (hL : Laid w) : Calls Tryz.prog 6 #[.agg (av 4 (ls [.string a, .string b, .string e, .string f])), .agg (av 5 (ls [.int .u64 40, .int .u64 50, .int .u64 10, .int .u64 20, .int .i64 64]))] w fun r w' => ∃ x : (Nat × List Blk) × Nat × List Blk, r = .returned (.tuple #[.pointer (some ⟨x.1.1, 0, none⟩), .pointer (some ⟨x.2.1, 0, none⟩)]) ∧ (IsT x.1.1 ⟨40, 50, 10, 20, 64, 0, 0, (hkA a b e f), (hkB a b e f), true, true, []⟩ x.1.2 ∧ IsT x.2.1 ⟨40, 50, 10, 20, 64, 0, 0, (hkB a b e f), (hkA a b e f), false, false, []⟩ x.2.2) ∧ OkT w w' [] (x.2.2 ++ x.1.2) := by
 go_enter Tryz.func6, Tryz.ntmps6
 have M := Mem.start hL
 refine sR ?_
 refine pN M 2 (.cells (av 4 (ls [.string a, .string b, .string e, .string f])) 23) fun g1 u1 M => ?_
 replace M : Mem ⟨w, []⟩ [⟨g1, .cells (av 4 (ls [.string a, .string b, .string e, .string f])) 23⟩] u1 := M
 refine pN M 3 (.cells (av 5 (ls [.int .u64 40, .int .u64 50, .int .u64 10, .int .u64 20, .int .i64 64])) 35) fun g2 u2 M => ?_
 replace M : Mem ⟨w, []⟩ [⟨g1, .cells (av 4 (ls [.string a, .string b, .string e, .string f])) 23⟩, ⟨g2, .cells (av 5 (ls [.int .u64 40, .int .u64 50, .int .u64 10, .int .u64 20, .int .i64 64])) 35⟩] u2 := M
 refine rV 2 <| nT <| sR <| rV 1 <| ZE M 22 0 1 ?_
 refine pC M 23 15 #[.string b] (.tuple #[.string (puV b), .int .i64 0]) (fun w M => Mon.rpubL b w M.laid hb) fun u3 M => ?_
 refine rV 5 <| nT <| wp_seq <| sq <| cF ?_
 refine wp_skip <| au_then <| sR <| rV 1 <| ZE M 30 0 0 ?_
 refine rV 2 <| ZE M 33 0 2 ?_
 refine pl_calln M (want_no rfl) (some 34) rfl 16 #[.string a, .string (puV b), .string e, .string ⟨#[105, 115, 116, 104, 109, 117, 115]⟩, .string ⟨#[]⟩] (fun g3 => .tuple #[.pointer (some ⟨g3, 0, none⟩), .string (tMs a (puV b) e ⟨#[105, 115, 116, 104, 109, 117, 115]⟩ ⟨#[]⟩), .int .i64 0]) (.cells (av 7 (stL (hsS a b e) [.string a, .string e, .string (puV b)])) 89) (fun _ => by kernel_rfl) (fun w M => c_BeginG a b e ⟨#[105, 115, 116, 104, 109, 117, 115]⟩ ⟨#[]⟩ ha he (by decide) (by decide) w M.laid) fun g3 u4 M => ?_
 replace M : Mem ⟨w, []⟩ [⟨g1, .cells (av 4 (ls [.string a, .string b, .string e, .string f])) 23⟩, ⟨g2, .cells (av 5 (ls [.int .u64 40, .int .u64 50, .int .u64 10, .int .u64 20, .int .i64 64])) 35⟩, ⟨g3, .cells (av 7 (stL (hsS a b e) [.string a, .string e, .string (puV b)])) 89⟩] u4 := M
 refine rV 7 <| nT <| wp_seq <| sq <| cF ?_
 refine wp_skip <| au_then <| sR <| rV 1 <| ZE M 42 0 1 ?_
 refine rV 1 ?_
 refine pl_calln M (want_no rfl) (some 44) rfl 17 #[.string b, .string ⟨#[105, 115, 116, 104, 109, 117, 115]⟩, .string (tMs a (puV b) e ⟨#[105, 115, 116, 104, 109, 117, 115]⟩ ⟨#[]⟩)] (fun g4 => .tuple #[.pointer (some ⟨g4, 0, none⟩), .agg (av 5 (ls [.string (puV a), .string ⟨#[]⟩, .string ⟨#[]⟩, .string ⟨#[]⟩, .string ⟨#[]⟩])), .int .i64 0]) (.cells (av 6 (stL (hsS a b e) [.string (puV a), .string (puV e)])) 94) (fun _ => by kernel_rfl) (fun w M => c_ReadG a b e ⟨#[105, 115, 116, 104, 109, 117, 115]⟩ ⟨#[]⟩ hb (by decide) (by decide) w M.laid) fun g4 u5 M => ?_
 replace M : Mem ⟨w, []⟩ [⟨g1, .cells (av 4 (ls [.string a, .string b, .string e, .string f])) 23⟩, ⟨g2, .cells (av 5 (ls [.int .u64 40, .int .u64 50, .int .u64 10, .int .u64 20, .int .i64 64])) 35⟩, ⟨g3, .cells (av 7 (stL (hsS a b e) [.string a, .string e, .string (puV b)])) 89⟩, ⟨g4, .cells (av 6 (stL (hsS a b e) [.string (puV a), .string (puV e)])) 94⟩] u5 := M
 refine rV 4 ?_
 refine pN M 12 (.cells (av 5 (ls [.string ⟨#[]⟩, .string ⟨#[]⟩, .string ⟨#[]⟩, .string ⟨#[]⟩, .string ⟨#[]⟩])) 61) fun g5 u6 M => ?_
 replace M : Mem ⟨w, []⟩ [⟨g1, .cells (av 4 (ls [.string a, .string b, .string e, .string f])) 23⟩, ⟨g2, .cells (av 5 (ls [.int .u64 40, .int .u64 50, .int .u64 10, .int .u64 20, .int .i64 64])) 35⟩, ⟨g3, .cells (av 7 (stL (hsS a b e) [.string a, .string e, .string (puV b)])) 89⟩, ⟨g4, .cells (av 6 (stL (hsS a b e) [.string (puV a), .string (puV e)])) 94⟩, ⟨g5, .cells (av 5 (ls [.string ⟨#[]⟩, .string ⟨#[]⟩, .string ⟨#[]⟩, .string ⟨#[]⟩, .string ⟨#[]⟩])) 61⟩] u6 := M
 refine rV 1 ?_
 refine pl_put M (want_no rfl) rfl 61 _ _ rfl 4 g5 0 (by kernel_rfl) 5 61 (ls [.string ⟨#[]⟩, .string ⟨#[]⟩, .string ⟨#[]⟩, .string ⟨#[]⟩, .string ⟨#[]⟩]) rfl 5 (ls [.string (puV a), .string ⟨#[]⟩, .string ⟨#[]⟩, .string ⟨#[]⟩, .string ⟨#[]⟩]) (ls [.string (puV a), .string ⟨#[]⟩, .string ⟨#[]⟩, .string ⟨#[]⟩, .string ⟨#[]⟩]) (by kernel_rfl) inz61 (by decide) (one_ls _ rfl) (fun j hj => by rw [if_pos (by omega), Nat.sub_zero]) fun u7 M => ?_
 replace M : Mem ⟨w, []⟩ [⟨g1, .cells (av 4 (ls [.string a, .string b, .string e, .string f])) 23⟩, ⟨g2, .cells (av 5 (ls [.int .u64 40, .int .u64 50, .int .u64 10, .int .u64 20, .int .i64 64])) 35⟩, ⟨g3, .cells (av 7 (stL (hsS a b e) [.string a, .string e, .string (puV b)])) 89⟩, ⟨g4, .cells (av 6 (stL (hsS a b e) [.string (puV a), .string (puV e)])) 94⟩, ⟨g5, .cells (av 5 (ls [.string (puV a), .string ⟨#[]⟩, .string ⟨#[]⟩, .string ⟨#[]⟩, .string ⟨#[]⟩])) 61⟩] u7 := M
 refine rV 1 <| nT <| wp_seq <| sq <| cF ?_
 refine wp_skip <| au_then <| sR <| rV 2 <| ZE M 53 0 3 ?_
 refine pC M 54 18 #[.pointer (some ⟨g4, 0, none⟩), .string f, .string ⟨#[]⟩] (.tuple #[.string (vRp (hsS a b e) (puV a) (puV e) f ⟨#[]⟩), .agg (av 5 (ls [.string (puV a), .string ⟨#[]⟩, .string (hkB a b e f), .string (hkA a b e f), .string (vS4 (hsS a b e) (puV a) (puV e) f ⟨#[]⟩).h])), .int .i64 0]) (fun w M => c_AnswerG g4 (hsS a b e) a e f ⟨#[]⟩ (tS5_h _ _ _ _ _) rfl hf (by decide) w M.laid (M.get 3 rfl) (M.ne0 3 rfl)) fun u8 M => ?_
 refine rV 4 ?_
 refine pN M 14 (.cells (av 5 (ls [.string ⟨#[]⟩, .string ⟨#[]⟩, .string ⟨#[]⟩, .string ⟨#[]⟩, .string ⟨#[]⟩])) 61) fun g6 u9 M => ?_
 replace M : Mem ⟨w, []⟩ [⟨g1, .cells (av 4 (ls [.string a, .string b, .string e, .string f])) 23⟩, ⟨g2, .cells (av 5 (ls [.int .u64 40, .int .u64 50, .int .u64 10, .int .u64 20, .int .i64 64])) 35⟩, ⟨g3, .cells (av 7 (stL (hsS a b e) [.string a, .string e, .string (puV b)])) 89⟩, ⟨g4, .cells (av 6 (stL (hsS a b e) [.string (puV a), .string (puV e)])) 94⟩, ⟨g5, .cells (av 5 (ls [.string (puV a), .string ⟨#[]⟩, .string ⟨#[]⟩, .string ⟨#[]⟩, .string ⟨#[]⟩])) 61⟩, ⟨g6, .cells (av 5 (ls [.string ⟨#[]⟩, .string ⟨#[]⟩, .string ⟨#[]⟩, .string ⟨#[]⟩, .string ⟨#[]⟩])) 61⟩] u9 := M
 refine rV 1 ?_
 refine pl_put M (want_no rfl) rfl 61 _ _ rfl 5 g6 0 (by kernel_rfl) 5 61 (ls [.string ⟨#[]⟩, .string ⟨#[]⟩, .string ⟨#[]⟩, .string ⟨#[]⟩, .string ⟨#[]⟩]) rfl 5 (ls [.string (puV a), .string ⟨#[]⟩, .string (hkB a b e f), .string (hkA a b e f), .string (vS4 (hsS a b e) (puV a) (puV e) f ⟨#[]⟩).h]) (ls [.string (puV a), .string ⟨#[]⟩, .string (hkB a b e f), .string (hkA a b e f), .string (vS4 (hsS a b e) (puV a) (puV e) f ⟨#[]⟩).h]) (by kernel_rfl) inz61 (by decide) (one_ls _ rfl) (fun j hj => by rw [if_pos (by omega), Nat.sub_zero]) fun u10 M => ?_
 replace M : Mem ⟨w, []⟩ [⟨g1, .cells (av 4 (ls [.string a, .string b, .string e, .string f])) 23⟩, ⟨g2, .cells (av 5 (ls [.int .u64 40, .int .u64 50, .int .u64 10, .int .u64 20, .int .i64 64])) 35⟩, ⟨g3, .cells (av 7 (stL (hsS a b e) [.string a, .string e, .string (puV b)])) 89⟩, ⟨g4, .cells (av 6 (stL (hsS a b e) [.string (puV a), .string (puV e)])) 94⟩, ⟨g5, .cells (av 5 (ls [.string (puV a), .string ⟨#[]⟩, .string ⟨#[]⟩, .string ⟨#[]⟩, .string ⟨#[]⟩])) 61⟩, ⟨g6, .cells (av 5 (ls [.string (puV a), .string ⟨#[]⟩, .string (hkB a b e f), .string (hkA a b e f), .string (vS4 (hsS a b e) (puV a) (puV e) f ⟨#[]⟩).h])) 61⟩] u10 := M
 refine rV 1 <| nT <| wp_seq <| sq <| cF ?_
 refine wp_skip <| au_then <| sR <| rV 2 ?_
 refine pC M 63 19 #[.pointer (some ⟨g3, 0, none⟩), .string (vRp (hsS a b e) (puV a) (puV e) f ⟨#[]⟩)] (.tuple #[.agg (av 5 (ls [.string (puV b), .string ⟨#[]⟩, .string (hkA a b e f), .string (hkB a b e f), .string (vS4 (hsS a b e) (puV a) (puV e) f ⟨#[]⟩).h])), .int .i64 0]) (fun w M => c_FinishG g3 (hsS a b e) a e (puV b) f ⟨#[]⟩ (tS5_h _ _ _ _ _) rfl ha he (by decide) w M.laid (M.get 2 rfl) (M.ne0 2 rfl)) fun u11 M => ?_
 refine rV 3 ?_
 refine pN M 15 (.cells (av 5 (ls [.string ⟨#[]⟩, .string ⟨#[]⟩, .string ⟨#[]⟩, .string ⟨#[]⟩, .string ⟨#[]⟩])) 61) fun g7 u12 M => ?_
 replace M : Mem ⟨w, []⟩ [⟨g1, .cells (av 4 (ls [.string a, .string b, .string e, .string f])) 23⟩, ⟨g2, .cells (av 5 (ls [.int .u64 40, .int .u64 50, .int .u64 10, .int .u64 20, .int .i64 64])) 35⟩, ⟨g3, .cells (av 7 (stL (hsS a b e) [.string a, .string e, .string (puV b)])) 89⟩, ⟨g4, .cells (av 6 (stL (hsS a b e) [.string (puV a), .string (puV e)])) 94⟩, ⟨g5, .cells (av 5 (ls [.string (puV a), .string ⟨#[]⟩, .string ⟨#[]⟩, .string ⟨#[]⟩, .string ⟨#[]⟩])) 61⟩, ⟨g6, .cells (av 5 (ls [.string (puV a), .string ⟨#[]⟩, .string (hkB a b e f), .string (hkA a b e f), .string (vS4 (hsS a b e) (puV a) (puV e) f ⟨#[]⟩).h])) 61⟩, ⟨g7, .cells (av 5 (ls [.string ⟨#[]⟩, .string ⟨#[]⟩, .string ⟨#[]⟩, .string ⟨#[]⟩, .string ⟨#[]⟩])) 61⟩] u12 := M
 refine pl_put M (want_no rfl) rfl 61 _ _ rfl 6 g7 0 (by kernel_rfl) 5 61 (ls [.string ⟨#[]⟩, .string ⟨#[]⟩, .string ⟨#[]⟩, .string ⟨#[]⟩, .string ⟨#[]⟩]) rfl 5 (ls [.string (puV b), .string ⟨#[]⟩, .string (hkA a b e f), .string (hkB a b e f), .string (vS4 (hsS a b e) (puV a) (puV e) f ⟨#[]⟩).h]) (ls [.string (puV b), .string ⟨#[]⟩, .string (hkA a b e f), .string (hkB a b e f), .string (vS4 (hsS a b e) (puV a) (puV e) f ⟨#[]⟩).h]) (by kernel_rfl) inz61 (by decide) (one_ls _ rfl) (fun j hj => by rw [if_pos (by omega), Nat.sub_zero]) fun u13 M => ?_
 replace M : Mem ⟨w, []⟩ [⟨g1, .cells (av 4 (ls [.string a, .string b, .string e, .string f])) 23⟩, ⟨g2, .cells (av 5 (ls [.int .u64 40, .int .u64 50, .int .u64 10, .int .u64 20, .int .i64 64])) 35⟩, ⟨g3, .cells (av 7 (stL (hsS a b e) [.string a, .string e, .string (puV b)])) 89⟩, ⟨g4, .cells (av 6 (stL (hsS a b e) [.string (puV a), .string (puV e)])) 94⟩, ⟨g5, .cells (av 5 (ls [.string (puV a), .string ⟨#[]⟩, .string ⟨#[]⟩, .string ⟨#[]⟩, .string ⟨#[]⟩])) 61⟩, ⟨g6, .cells (av 5 (ls [.string (puV a), .string ⟨#[]⟩, .string (hkB a b e f), .string (hkA a b e f), .string (vS4 (hsS a b e) (puV a) (puV e) f ⟨#[]⟩).h])) 61⟩, ⟨g7, .cells (av 5 (ls [.string (puV b), .string ⟨#[]⟩, .string (hkA a b e f), .string (hkB a b e f), .string (vS4 (hsS a b e) (puV a) (puV e) f ⟨#[]⟩).h])) 61⟩] u13 := M
 refine rV 1 <| nT <| wp_seq <| sq <| cF ?_
 refine wp_skip <| au_then <| sR ?_
 refine pA M 69 6 5 (ls [.string (puV b), .string ⟨#[]⟩, .string (hkA a b e f), .string (hkB a b e f), .string (vS4 (hsS a b e) (puV a) (puV e) f ⟨#[]⟩).h]) ?_
 refine pA M 70 1 5 (ls [.int .u64 40, .int .u64 50, .int .u64 10, .int .u64 20, .int .i64 64]) ?_
 refine pl_callM M (want_no rfl) (some 71) rfl 20 #[.agg (av 5 (ls [.string (puV b), .string ⟨#[]⟩, .string (hkA a b e f), .string (hkB a b e f), .string (vS4 (hsS a b e) (puV a) (puV e) f ⟨#[]⟩).h])), .bool true, .int .u64 0, .agg (av 5 (ls [.int .u64 40, .int .u64 50, .int .u64 10, .int .u64 20, .int .i64 64]))] [⟨g1, .cells (av 4 (ls [.string a, .string b, .string e, .string f])) 23⟩, ⟨g2, .cells (av 5 (ls [.int .u64 40, .int .u64 50, .int .u64 10, .int .u64 20, .int .i64 64])) 35⟩, ⟨g3, .cells (av 7 (stL (hsS a b e) [.string a, .string e, .string (puV b)])) 89⟩, ⟨g4, .cells (av 6 (stL (hsS a b e) [.string (puV a), .string (puV e)])) 94⟩, ⟨g5, .cells (av 5 (ls [.string (puV a), .string ⟨#[]⟩, .string ⟨#[]⟩, .string ⟨#[]⟩, .string ⟨#[]⟩])) 61⟩, ⟨g6, .cells (av 5 (ls [.string (puV a), .string ⟨#[]⟩, .string (hkB a b e f), .string (hkA a b e f), .string (vS4 (hsS a b e) (puV a) (puV e) f ⟨#[]⟩).h])) 61⟩, ⟨g7, .cells (av 5 (ls [.string (puV b), .string ⟨#[]⟩, .string (hkA a b e f), .string (hkB a b e f), .string (vS4 (hsS a b e) (puV a) (puV e) f ⟨#[]⟩).h])) 61⟩] [] [] (by simp only [List.append_assoc, List.cons_append, List.nil_append, List.append_nil]) (fun x : Nat × List Blk => .tuple #[.pointer (some ⟨x.1, 0, none⟩), .int .i64 0]) (fun x : Nat × List Blk => x.2) (fun x : Nat × List Blk => IsT x.1 ⟨40, 50, 10, 20, 64, 0, 0, (hkA a b e f), (hkB a b e f), true, true, []⟩ x.2) (fun _ => by kernel_rfl) (fun w hL hT => a_New (hkA_size a b e f) (hkB_size a b e f) (by decide) (by decide) (by decide) w hL) ?_
 rintro ⟨pa, Tpa⟩ u14 Hpa M
 replace M : Mem ⟨w, []⟩ (⟨g1, .cells (av 4 (ls [.string a, .string b, .string e, .string f])) 23⟩ :: ⟨g2, .cells (av 5 (ls [.int .u64 40, .int .u64 50, .int .u64 10, .int .u64 20, .int .i64 64])) 35⟩ :: ⟨g3, .cells (av 7 (stL (hsS a b e) [.string a, .string e, .string (puV b)])) 89⟩ :: ⟨g4, .cells (av 6 (stL (hsS a b e) [.string (puV a), .string (puV e)])) 94⟩ :: ⟨g5, .cells (av 5 (ls [.string (puV a), .string ⟨#[]⟩, .string ⟨#[]⟩, .string ⟨#[]⟩, .string ⟨#[]⟩])) 61⟩ :: ⟨g6, .cells (av 5 (ls [.string (puV a), .string ⟨#[]⟩, .string (hkB a b e f), .string (hkA a b e f), .string (vS4 (hsS a b e) (puV a) (puV e) f ⟨#[]⟩).h])) 61⟩ :: ⟨g7, .cells (av 5 (ls [.string (puV b), .string ⟨#[]⟩, .string (hkA a b e f), .string (hkB a b e f), .string (vS4 (hsS a b e) (puV a) (puV e) f ⟨#[]⟩).h])) 61⟩ :: Tpa) u14 := by simpa only [List.append_assoc, List.cons_append, List.nil_append, List.append_nil] using M
 refine rV 5 <| nT <| sR ?_
 refine pA M 75 5 5 (ls [.string (puV a), .string ⟨#[]⟩, .string (hkB a b e f), .string (hkA a b e f), .string (vS4 (hsS a b e) (puV a) (puV e) f ⟨#[]⟩).h]) ?_
 refine pA M 76 1 5 (ls [.int .u64 40, .int .u64 50, .int .u64 10, .int .u64 20, .int .i64 64]) ?_
 refine pl_callM M (want_no rfl) (some 77) rfl 20 #[.agg (av 5 (ls [.string (puV a), .string ⟨#[]⟩, .string (hkB a b e f), .string (hkA a b e f), .string (vS4 (hsS a b e) (puV a) (puV e) f ⟨#[]⟩).h])), .bool false, .int .u64 0, .agg (av 5 (ls [.int .u64 40, .int .u64 50, .int .u64 10, .int .u64 20, .int .i64 64]))] [⟨g1, .cells (av 4 (ls [.string a, .string b, .string e, .string f])) 23⟩, ⟨g2, .cells (av 5 (ls [.int .u64 40, .int .u64 50, .int .u64 10, .int .u64 20, .int .i64 64])) 35⟩, ⟨g3, .cells (av 7 (stL (hsS a b e) [.string a, .string e, .string (puV b)])) 89⟩, ⟨g4, .cells (av 6 (stL (hsS a b e) [.string (puV a), .string (puV e)])) 94⟩, ⟨g5, .cells (av 5 (ls [.string (puV a), .string ⟨#[]⟩, .string ⟨#[]⟩, .string ⟨#[]⟩, .string ⟨#[]⟩])) 61⟩, ⟨g6, .cells (av 5 (ls [.string (puV a), .string ⟨#[]⟩, .string (hkB a b e f), .string (hkA a b e f), .string (vS4 (hsS a b e) (puV a) (puV e) f ⟨#[]⟩).h])) 61⟩, ⟨g7, .cells (av 5 (ls [.string (puV b), .string ⟨#[]⟩, .string (hkA a b e f), .string (hkB a b e f), .string (vS4 (hsS a b e) (puV a) (puV e) f ⟨#[]⟩).h])) 61⟩] [] (Tpa) (by simp only [List.append_assoc, List.cons_append, List.nil_append, List.append_nil]) (fun x : Nat × List Blk => .tuple #[.pointer (some ⟨x.1, 0, none⟩), .int .i64 0]) (fun x : Nat × List Blk => x.2) (fun x : Nat × List Blk => IsT x.1 ⟨40, 50, 10, 20, 64, 0, 0, (hkB a b e f), (hkA a b e f), false, false, []⟩ x.2) (fun _ => by kernel_rfl) (fun w hL hT => a_New (hkB_size a b e f) (hkA_size a b e f) (by decide) (by decide) (by decide) w hL) ?_
 rintro ⟨pb, Tpb⟩ u15 Hpb M
 replace M : Mem ⟨w, []⟩ (⟨g1, .cells (av 4 (ls [.string a, .string b, .string e, .string f])) 23⟩ :: ⟨g2, .cells (av 5 (ls [.int .u64 40, .int .u64 50, .int .u64 10, .int .u64 20, .int .i64 64])) 35⟩ :: ⟨g3, .cells (av 7 (stL (hsS a b e) [.string a, .string e, .string (puV b)])) 89⟩ :: ⟨g4, .cells (av 6 (stL (hsS a b e) [.string (puV a), .string (puV e)])) 94⟩ :: ⟨g5, .cells (av 5 (ls [.string (puV a), .string ⟨#[]⟩, .string ⟨#[]⟩, .string ⟨#[]⟩, .string ⟨#[]⟩])) 61⟩ :: ⟨g6, .cells (av 5 (ls [.string (puV a), .string ⟨#[]⟩, .string (hkB a b e f), .string (hkA a b e f), .string (vS4 (hsS a b e) (puV a) (puV e) f ⟨#[]⟩).h])) 61⟩ :: ⟨g7, .cells (av 5 (ls [.string (puV b), .string ⟨#[]⟩, .string (hkA a b e f), .string (hkB a b e f), .string (vS4 (hsS a b e) (puV a) (puV e) f ⟨#[]⟩).h])) 61⟩ :: (Tpb ++ Tpa)) u15 := by simpa only [List.append_assoc, List.cons_append, List.nil_append, List.append_nil] using M
 refine rV 5 <| nT <| sq <| wp_ret ?_
 exact bodyPost_ret (v := .tuple #[.pointer (some ⟨pa, 0, none⟩), .pointer (some ⟨pb, 0, none⟩)]) (results_tmp2 Tryz.results6 _ _ _ _ (by kernel_rfl) (by kernel_rfl)) (by kernel_rfl) ⟨((pa, Tpa), (pb, Tpb)), rfl, ⟨Hpa, Hpb⟩, Mem.okT0 (T := []) (M.drop (.cons _ (.cons _ (.cons _ (.cons _ (.cons _ (.cons _ (.cons _ (List.Sublist.refl _)))))))))⟩
theorem c_speaks  (w : World) (hL : Laid w)  : Cs 5 #[] w (.bool true) := by
 go_enter Tryz.func5, Tryz.ntmps5
 have M := Mem.start hL
 refine sq <| sR ?_
 refine ZC M 9 (fun w M => c_secret 97 (by decide) (by decide) w M.laid) fun u1 M => ?_
 refine ZC M 10 (fun w M => c_secret 98 (by decide) (by decide) w M.laid) fun u2 M => ?_
 refine ZC M 11 (fun w M => c_secret 101 (by decide) (by decide) w M.laid) fun u3 M => ?_
 refine ZC M 12 (fun w M => c_secret 102 (by decide) (by decide) w M.laid) fun u4 M => ?_
 refine rV 1 ?_
 refine ZC M 14 (fun w M => c_limits w M.laid) fun u5 M => ?_
 refine pl_callM M (want_no rfl) (some 15) rfl 6 #[.agg (av 4 (ls [.string (keS 97), .string (keS 98), .string (keS 101), .string (keS 102)])), .agg (av 5 (ls [.int .u64 40, .int .u64 50, .int .u64 10, .int .u64 20, .int .i64 64]))] [] [] [] (by simp only [List.append_assoc, List.cons_append, List.nil_append, List.append_nil]) (fun x : (Nat × List Blk) × Nat × List Blk => .tuple #[.pointer (some ⟨x.1.1, 0, none⟩), .pointer (some ⟨x.2.1, 0, none⟩)]) (fun x : (Nat × List Blk) × Nat × List Blk => x.2.2 ++ x.1.2) (fun x : (Nat × List Blk) × Nat × List Blk => IsT x.1.1 ⟨40, 50, 10, 20, 64, 0, 0, (hkA (keS 97) (keS 98) (keS 101) (keS 102)), (hkB (keS 97) (keS 98) (keS 101) (keS 102)), true, true, []⟩ x.1.2 ∧ IsT x.2.1 ⟨40, 50, 10, 20, 64, 0, 0, (hkB (keS 97) (keS 98) (keS 101) (keS 102)), (hkA (keS 97) (keS 98) (keS 101) (keS 102)), false, false, []⟩ x.2.2) (fun _ => by kernel_rfl) (fun w hL hT => c_shaken (keS_size _) (keS_size _) (keS_size _) (keS_size _) w hL) ?_
 rintro ⟨⟨pa, Tpa⟩, pb, Tpb⟩ u6 ⟨Hpa, Hpb⟩ M
 replace M : Mem ⟨w, []⟩ ((Tpb ++ Tpa)) u6 := by simpa only [List.append_assoc, List.cons_append, List.nil_append, List.append_nil] using M
 refine rV 5 <| nT <| wp_seq <| sq <| cF ?_
 refine wp_skip <| au_then <| sR <| rV 1 ?_
 refine pl_callM M (want_no rfl) (some 26) rfl 8 #[.pointer (some ⟨pa, 0, none⟩), .int .u64 0, .string ⟨#[120]⟩] (Tpb) (Tpa) [] (by simp only [List.append_assoc, List.cons_append, List.nil_append, List.append_nil]) (fun T0 => .tuple #[.int .u64 0, .string (sealS (hkA (keS 97) (keS 98) (keS 101) (keS 102)) (nS 0) ⟨#[]⟩ ⟨#[120]⟩), .int .i64 0]) (fun T0 => T0) (fun T0 => IsT pa ⟨40, 50, 10, 20, 64, 1, 0, (hkA (keS 97) (keS 98) (keS 101) (keS 102)), (hkB (keS 97) (keS 98) (keS 101) (keS 102)), true, true, []⟩ T0) (fun _ => by kernel_rfl) (fun w hL hT => s_ok Hpa ⟨by decide, by decide, by decide, by decide⟩ (by decide) (hkA_size _ _ _ _) (by decide) (by decide) rfl (by decide) w hL hT) ?_
 rintro Y1 u7 J1 M
 replace M : Mem ⟨w, []⟩ ((Tpb ++ Y1)) u7 := by simpa only [List.append_assoc, List.cons_append, List.nil_append, List.append_nil] using M
 refine rV 7 <| nT <| sR <| rV 3 ?_
 refine pl_callM M (want_no rfl) (some 34) rfl 10 #[.pointer (some ⟨pb, 0, none⟩), .int .u64 0, .int .u64 0, .string (sealS (hkA (keS 97) (keS 98) (keS 101) (keS 102)) (nS 0) ⟨#[]⟩ ⟨#[120]⟩)] [] (Tpb) (Y1) (by simp only [List.append_assoc, List.cons_append, List.nil_append, List.append_nil]) (fun T0 => .tuple #[.string ⟨#[120]⟩, .int .i64 0]) (fun T0 => T0) (fun T0 => IsT pb ⟨40, 50, 10, 20, 64, 0, 0, (hkB (keS 97) (keS 98) (keS 101) (keS 102)), (hkA (keS 97) (keS 98) (keS 101) (keS 102)), false, true, [0]⟩ T0) (fun _ => by kernel_rfl) (fun w hL hT => o_ok (s := ⟨#[120]⟩) Hpb ⟨by decide, by decide, by decide, by decide⟩ (by decide) (by decide) (hkB_size _ _ _ _) (hkA_size _ _ _ _) (by decide) (by decide) (by decide) (by decide) w hL hT) ?_
 rintro Y2 u8 J2 M
 replace M : Mem ⟨w, []⟩ ((Y2 ++ Y1)) u8 := by simpa only [List.append_assoc, List.cons_append, List.nil_append, List.append_nil] using M
 refine rV 5 <| nT <| sq <| wp_ret ?_
 exact b1 M
open Go.RowKit
def tot (Y : Nat → ByteArray) : Nat → Nat
 | 0 => 0
 | j + 1 => tot Y j + 8 + (Y j).size
theorem tot_succ (Y : Nat → ByteArray) (j : Nat) : ((tot Y j : Nat) : Int) + 8 + ((Y j).size : Int) = ((tot Y (j + 1) : Nat) : Int) := by
 show _ = ((tot Y j + 8 + (Y j).size : Nat) : Int)
 omega
theorem tot_ge (Y : Nat → ByteArray) : ∀ n j, j < n → (Y j).size + 8 ≤ tot Y n
 | 0, j, h => absurd h (by omega)
 | n + 1, j, h => by
  show _ ≤ tot Y n + 8 + (Y n).size
  by_cases e : j = n
  ·subst e
   omega
  ·have := tot_ge Y n j (by omega)
   omega
theorem cv_i64 {x : Int} (h0 : -9223372036854775808 ≤ x) (h1 : x < 9223372036854775808) : cv .i64 x = x := wrap64 h0 h1
theorem run_ixK {P : Program} {a : Act} {o : Oper} (t elem K : TypeId) (hu : P.underlying t = some (.slice elem)) (hs : (P.info? elem).map (·.size) = some K) (x ix : Operand) (ho : o.op = .indexAddr t x ix) (l : Option Addr) (g off len cap : Nat) (hx : a.eval x = .slice l len cap) (hl : l = some ⟨g, off, none⟩) (k : IntKind) (i : Nat) (hi : a.eval ix = .int k (i : Int)) (hlt : i < len) (w : World) :
  (execOp a.eval o).run P w = .ok (.value (.pointer (some ⟨g, off + i * K, none⟩))) w := by
 subst hl
 cases hq : P.info? elem with
 | none => simp [hq] at hs
 | some info =>
  have hsz : info.size = K := by simpa [hq] using hs
  unfold execOp
  simp [ho, hx, hi, Instr.indexAt, asIntOf, run_underlying hu, sizeOf, typeInfo, hq, hsz, add_at, hlt]
theorem run_remN {P : Program} {a : Act} {o : Oper} (t rt : TypeId) (x y : Operand) (ho : o.op = .binOp .rem t x y rt) (m d : Nat) (hx : a.eval x = .int .i64 (m : Int)) (hy : a.eval y = .int .i64 (d : Int)) (hd : 0 < d) (w : World) :
  (execOp a.eval o).run P w = .ok (.value (.int .i64 ((m % d : Nat) : Int))) w := by
 have h0 : ¬ d = 0 := by omega
 have e : Int.tmod (m : Int) (d : Int) = (m : Int) % (d : Int) := rfl
 unfold execOp
 simp [ho, hx, hy, eqGuard, binOp, Op.intDiv, h0, e]
def tuB (A : Yb) (k : Nat) (x : Int) : ByteArray := bs ((sb A).set k (xb (bt A k) x))
theorem tuB_sb (A : Yb) (k : Nat) (x : Int) : sb (tuB A k x) = (sb A).set k (xb (bt A k) x) := sb_bs _ fun y hy => by
 rcases List.mem_or_eq_of_mem_set hy with h | h
 ·exact sb_nn A y h
 ·rw [h]
  exact xb_nn _ _
theorem vs8_set (l : List Int) (k : Nat) (x : Int) : (vs8 l).set k (.int .u8 x) = vs8 (l.set k x) := by
 unfold vs8
 rw [List.map_set]
theorem xb_0 (x : Int) (h0 : 0 ≤ x) (h1 : x < 256) : xb x 0 = x := by
 have h := xb_xb x x h0 h1
 have e : xb x x = 0 := by
  unfold xb
  rw [BitVec.xor_self]
  rfl
 rw [e] at h
 have hc : xb 0 x = xb x 0 := by
  unfold xb
  rw [BitVec.xor_comm]
 rw [← hc]
 exact h
theorem tuB_0 (A : Yb) (k : Nat) (hk : k < A.size) : tuB A k 0 = A := by
 have hb := bt_nn A k
 unfold tuB
 rw [xb_0 _ hb.1 hb.2]
 have e : (sb A).set k (bt A k) = sb A := by
  apply List.ext_getElem?
  intro i
  rw [List.getElem?_set]
  by_cases h : k = i
  ·subst h
   rw [if_pos rfl, if_pos (by rw [sb_length]; exact hk), sb_get A k hk]
  ·rw [if_neg h]
 rw [e, bs_sb]
def fl4 (f g h k : NV) : Nat → List Value
 | 0 => []
 | m + 1 => fl4 f g h k m ++ [f m, g m, h m, k m]
theorem fl4_len (f g h k : NV) : ∀ m, (fl4 f g h k m).length = m * 4
 | 0 => rfl
 | m + 1 => by simp only [fl4, List.length_append, fl4_len f g h k m, List.length_cons, List.length_nil]; omega
theorem fl4_at (f g h k : NV) : ∀ m j, j < m → (fl4 f g h k m)[j * 4 + 0]? = some (f j) ∧ (fl4 f g h k m)[j * 4 + 1]? = some (g j) ∧ (fl4 f g h k m)[j * 4 + 2]? = some (h j) ∧ (fl4 f g h k m)[j * 4 + 3]? = some (k j)
 | 0, j, hj => absurd hj (by omega)
 | m + 1, j, hj => by
  have hl := fl4_len f g h k m
  simp only [fl4]
  by_cases e : j = m
  ·subst e
   rw [List.getElem?_append_right (by omega), List.getElem?_append_right (by omega), List.getElem?_append_right (by omega), List.getElem?_append_right (by omega), hl, Nat.add_sub_cancel_left, Nat.add_sub_cancel_left, Nat.add_sub_cancel_left, Nat.add_sub_cancel_left]
   exact ⟨rfl, rfl, rfl, rfl⟩
  ·rw [List.getElem?_append_left (by omega), List.getElem?_append_left (by omega), List.getElem?_append_left (by omega), List.getElem?_append_left (by omega)]
   exact fl4_at f g h k m j (by omega)
theorem fl4_congr {f g h k f' g' h' k' : NV} : ∀ m, (∀ j, j < m → f j = f' j ∧ g j = g' j ∧ h j = h' j ∧ k j = k' j) → fl4 f g h k m = fl4 f' g' h' k' m
 | 0, _ => rfl
 | m + 1, H => by
  obtain ⟨h1, h2, h3, h4⟩ := H m (by omega)
  simp only [fl4]
  rw [fl4_congr m fun j hj => H j (by omega), h1, h2, h3, h4]
theorem fl4_set (f g h k : NV) (v : Value) : ∀ m j, j < m → (fl4 f g h k m).set (j * 4 + 3) v = fl4 f g h (upd k j v) m
 | 0, j, hj => absurd hj (by omega)
 | m + 1, j, hj => by
  have hl := fl4_len f g h k m
  simp only [fl4]
  by_cases e : j = m
  ·subst e
   rw [List.set_append_right _ _ (by omega), hl, Nat.add_sub_cancel_left, fl4_congr j (f := f) (g := g) (h := h) (k := k) (f' := f) (g' := g) (h' := h) (k' := upd k j v) fun t ht => ⟨rfl, rfl, rfl, by unfold upd; rw [if_neg (by omega)]⟩]
   unfold upd
   rw [if_pos rfl]
   rfl
  ·rw [List.set_append_left _ _ (by omega), fl4_set f g h k v m j (by omega)]
   unfold upd
   rw [if_neg (Ne.symm e)]
def cn (q : List Nat) : Nat → Int := fun t => if t ∈ q then 1 else 0
theorem cn_in {q : List Nat} {r : Nat} (h : r ∈ q) : cn q r = 1 := if_pos h
theorem cn_out {q : List Nat} {r : Nat} (h : ¬ r ∈ q) : cn q r = 0 := if_neg h
def sL (K : Yb) (X : Nat → ByteArray) (q : List Nat) (m : Nat) : List Value := fl4 (fun j => .int .u64 (j : Int)) (fun j => .string (sealS K (nS (j : Int)) ⟨#[]⟩ (X j))) (fun j => .string (X j)) (fun j => .int .i64 (cn q j)) m
theorem sL_len (K : Yb) (X : Nat → ByteArray) (q : List Nat) (m : Nat) : (sL K X q m).length = m * 4 := fl4_len _ _ _ _ m
theorem sL_at (K : Yb) (X : Nat → ByteArray) (q : List Nat) {m r : Nat} (h : r < m) : (sL K X q m)[r * 4 + 0]? = some (.int .u64 (r : Int)) ∧ (sL K X q m)[r * 4 + 1]? = some (.string (sealS K (nS (r : Int)) ⟨#[]⟩ (X r))) ∧ (sL K X q m)[r * 4 + 2]? = some (.string (X r)) ∧ (sL K X q m)[r * 4 + 3]? = some (.int .i64 (cn q r)) := fl4_at _ _ _ _ m r h
theorem sL_app {K : Yb} {X : Nat → ByteArray} {q : List Nat} {m : Nat} {t : Yb} (hq : ∀ r ∈ q, r < m) : sL K X q m ++ [.int .u64 (m : Int), .string (sealS K (nS (m : Int)) ⟨#[]⟩ t), .string t, .int .i64 0] = sL K (upd X m t) q (m + 1) := by
 have e : upd X m t m = t := if_pos rfl
 have e2 : cn q m = 0 := cn_out fun h => Nat.lt_irrefl m (hq m h)
 show _ = fl4 _ _ _ _ m ++ [_, _, _, _]
 simp only
 rw [e, e2]
 refine congrArg (· ++ _) (fl4_congr m fun j hj => ?_)
 have e3 : upd X m t j = X j := if_neg (Nat.ne_of_lt hj)
 rw [e3]
 exact ⟨rfl, rfl, rfl, rfl⟩
theorem sL_hear {K : Yb} {X : Nat → ByteArray} {q : List Nat} {m r : Nat} (hr : r < m) : (sL K X q m).set (r * 4 + 3) (.int .i64 1) = sL K X (q ++ [r]) m := by
 unfold sL
 rw [fl4_set _ _ _ _ _ m r hr]
 refine fl4_congr m fun j hj => ⟨rfl, rfl, rfl, ?_⟩
 unfold upd cn
 by_cases e : j = r
 ·subst e
  simp
 ·simp [e]
theorem my_new {q : List Nat} {m r : Nat} (hq : ∀ t ∈ q, t < m) (hm : m ≤ 64) (hr : ¬ r ∈ q) : my 64 q r = 0 := by
 unfold my
 rw [if_neg (fun c => by have := hq _ (mx_in c.1); omega), if_neg hr]
theorem my_old {q : List Nat} {m r : Nat} (hq : ∀ t ∈ q, t < m) (hm : m ≤ 64) (hr : r ∈ q) : my 64 q r = 9 := by
 unfold my
 rw [if_neg (fun c => by have := hq _ (mx_in c.1); omega), if_pos hr]
theorem oX_no {x : TS} {n i : Nat} {c : Yb} (h : ¬ x.oE n i c = 0) : x.oX n i c = x := by
 unfold TS.oE at h
 unfold TS.oX
 by_cases e : x.oF n i = 0
 ·rw [if_pos e] at h
  rw [if_pos e]
  unfold opU opQ
  rw [if_neg h, if_neg h]
 ·rw [if_neg e]
theorem Mem.unfetch {c : Ctx} {pre suf : List Blk} {b : Blk} {W : World} (M : Mem c (b :: (pre ++ suf)) W) : Mem c (pre ++ ([b] ++ suf)) W := M.perm List.perm_middle.symm
theorem up_size {X : Nat → ByteArray} {m : Nat} {t : Yb} (h : ∀ j, j < m → (X j).size ≤ 4096) (ht : t.size ≤ 4096) : ∀ j, j < m + 1 → (upd X m t j).size ≤ 4096 := fun j hj => by
 unfold upd
 by_cases e : j = m
 ·rw [if_pos e]
  exact ht
 ·rw [if_neg e]
  exact h j (by omega)
theorem in_app {q : List Nat} {m r : Nat} (h : ∀ t ∈ q, t < m) (hr : r < m) : ∀ t ∈ q ++ [r], t < m := fun t ht => (List.mem_append.1 ht).elim (h t) fun e => by rw [List.mem_singleton.1 e]; exact hr
theorem vs8_sb (s : Yb) (k : Nat) (h : k < s.size) : (vs8 (sb s))[k]? = some (.int .u8 (bt s k)) := by
 unfold vs8
 rw [List.getElem?_map, sb_get _ _ h]
 rfl
theorem infoS : InfoK Tryz.prog 43 4 (.agg #[.int .u64 0, .string ⟨#[]⟩, .string ⟨#[]⟩, .int .i64 0]) := infoK (b := 48) (by kernel_rfl) (by kernel_rfl) (by kernel_rfl) (by decide)
end Go.Proofs.YtiahdbibeleakaaGreatDoor
