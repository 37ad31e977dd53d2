/- Part 4 of the walks and facts. -/
import Derived.Test.YtenafinbaanicaaGreatDoorPs3
set_option maxHeartbeats 16000000
set_option maxRecDepth 100000
set_option linter.unusedSimpArgs false
set_option linter.unusedVariables false
namespace Go.Proofs.YtenafinbaanicaaGreatDoor
open Go.RowKit
structure TS where
 rc : Nat
 ct : Nat
 rk : Nat
 lf : Nat
 sz : Nat
 nx : Nat
 mt : Nat
 sd : ByteArray
 rv : ByteArray
 fi : Bool
 su : Bool
 q : List Nat
def tB (x : TS) (p e wd k md h : Nat) (m : NI) : List Blk := [⟨p, .cells (av 1 (ls [.pointer (some ⟨e, 0, none⟩)])) 91⟩, ⟨e, .cells (av 12 (ls [.pointer (some ⟨wd, 0, none⟩), .func (.func 49) #[] #[.pointer (some ⟨md, 0, none⟩)], .int .u64 ((x.rc : Nat) : Int), .int .u64 ((x.ct : Nat) : Int), .int .u64 ((x.rk : Nat) : Int), .int .u64 ((x.lf : Nat) : Int), .int .i64 ((x.sz : Nat) : Int), .string x.sd, .string x.rv, .bool (x.fi), .bool (x.su), .int .u64 ((x.nx : Nat) : Int)])) 89⟩, ⟨wd, .cells (av 3 (ls [.int .u64 ((x.sz : Nat) : Int), .int .u64 (h : Int), .slice (some ⟨k, 0, none⟩) (nW x.sz) (nW x.sz)])) 121⟩, ⟨k, .cells (av (nW x.sz) (w64 m)) 24⟩, ⟨md, .cells (av 1 (ls [.int .u64 ((x.mt : Nat) : Int)])) 24⟩]
structure IsT (p : Nat) (x : TS) (T : List Blk) : Prop where
 out : ∃ e wd k md h m, T = tB x p e wd k md h m ∧ Inv x.sz h m x.q ∧ h < 18446744073709551616
structure TS.Ok (x : TS) : Prop where
 s1 : 1 ≤ x.sz
 s2 : x.sz ≤ 4096
 c : x.ct ≤ 1152921504606846976
 n : x.nx ≤ x.ct
def TS.ov (x : TS) (n : Nat) : Bool := ovB x.sd x.lf x.mt n
def TS.wn (x : TS) (n : Nat) : Bool := wnB x.sd x.fi x.rc x.rk x.lf x.nx x.mt n
def TS.sF (x : TS) (n : Nat) : Int := slF x.sd x.su x.ct x.lf x.nx x.mt n
def TS.sE (x : TS) (n : Nat) (s : Yb) : Int := if x.sF n = 0 then slZ x.sd x.nx s else x.sF n
def TS.sN (x : TS) (n : Nat) (s : Yb) : Nat := if x.sF n = 0 then slN x.sd x.nx s else 0
def TS.sC (x : TS) (n : Nat) (s : Yb) : ByteArray := if x.sF n = 0 then slC x.sd x.nx s else ⟨#[]⟩
def TS.sX (x : TS) (n : Nat) (s : Yb) : TS := if x.sF n = 0 then { x with nx := slX x.sd x.nx s } else x
def TS.oF (x : TS) (n i : Nat) : Int := opF x.sd x.ct x.lf x.sz x.mt x.q n i
def TS.oE (x : TS) (n i : Nat) (c : Yb) : Int := if x.oF n i = 0 then opZ x.rv i c else x.oF n i
def TS.oC (x : TS) (n i : Nat) (c : Yb) : ByteArray := if x.oF n i = 0 then opC x.rv i c else ⟨#[]⟩
def TS.oX (x : TS) (n i : Nat) (c : Yb) : TS := if x.oF n i = 0 then { x with su := opU x.su x.rv i c, q := opQ x.sz x.q x.rv i c } else x
def TS.wX (x : TS) : TS := { x with sd := ⟨#[]⟩, rv := ⟨#[]⟩ }
def mbB (rc ct rk lf : Nat) : Bool := decide (1 ≤ rc ∧ rc ≤ ct ∧ ct ≤ 1152921504606846976 ∧ 1 ≤ rk ∧ rk ≤ lf ∧ lf ≤ 1152921504606846976)
theorem c_mayBe {rc ct rk lf : Nat} {z : Int} (w : World) (hL : Laid w)  : Cs 23 #[.agg (av 5 (ls [.int .u64 (rc : Int), .int .u64 (ct : Int), .int .u64 (rk : Int), .int .u64 (lf : Int), .int .i64 z]))] w (.bool (mbB rc ct rk lf)) := by
 go_enter Tryz.func23, Tryz.ntmps23
 have M := Mem.start hL
 refine sR <| pN M 1 (.cells (av 5 (ls [.int .u64 (rc : Int), .int .u64 (ct : Int), .int .u64 (rk : Int), .int .u64 (lf : Int), .int .i64 z])) 26) fun g1 u1 M => ?_
 replace M : Mem ⟨w, []⟩ [⟨g1, .cells (av 5 (ls [.int .u64 (rc : Int), .int .u64 (ct : Int), .int .u64 (rk : Int), .int .u64 (lf : Int), .int .i64 z])) 26⟩] u1 := M
 refine rV 1 <| nT <| sR <| rV 1 <| ZE M 4 0 0 ?_
 by_cases c0 : (rc : Int) < 1
 ·refine ZF 5 (1 ≤ (rc : Int)) <| rV 30 <| nT <| wp_ret ?_
  have e0 : mbB rc ct rk lf = false := decide_eq_false (by omega)
  exact bodyPost_ret (v := .bool false) (results_tmp1 Tryz.results23 _ _ _ (by kernel_rfl)) (by kernel_rfl) ⟨by rw [e0], below_grown M.old⟩
 ·refine ZT 5 (1 ≤ (rc : Int)) <| rV 2 <| pl_cell M (want_on 3 true rfl 6 rfl (by kernel_rfl)) (some 8) rfl 24 _ rfl g1 0 (by kernel_rfl) (.int .u64 (rc : Int)) (fun _ => by kernel_rfl) (fun w M => M.cell 0 rfl (by decide) rfl) <| rV 1 <| pl_cell M (want_on 3 true rfl 6 rfl (by kernel_rfl)) (some 10) rfl 24 _ rfl g1 1 (by kernel_rfl) (.int .u64 (ct : Int)) (fun _ => by kernel_rfl) (fun w M => M.cell 0 rfl (by decide) rfl) ?_
  by_cases c1 : (ct : Int) < (rc : Int)
  ·refine pl_val (want_on 3 true rfl 6 rfl (by kernel_rfl)) (some 11) rfl (.bool false) (fun w => Eq.trans (b := .ok (.value (.bool (decide ((rc : Int) ≤ (ct : Int))))) w) (by kernel_rfl) (by rw [decide_eq_false (by omega)])) <| rV 24 <| nT <| wp_ret ?_
   have e0 : mbB rc ct rk lf = false := decide_eq_false (by omega)
   exact bodyPost_ret (v := .bool false) (results_tmp1 Tryz.results23 _ _ _ (by kernel_rfl)) (by kernel_rfl) ⟨by rw [e0], below_grown M.old⟩
  ·refine pl_val (want_on 3 true rfl 6 rfl (by kernel_rfl)) (some 11) rfl (.bool true) (fun w => Eq.trans (b := .ok (.value (.bool (decide ((rc : Int) ≤ (ct : Int))))) w) (by kernel_rfl) (by rw [decide_eq_true (by omega)])) <| rV 3 <| pl_cell M (want_on 10 true rfl 13 rfl (by kernel_rfl)) (some 15) rfl 24 _ rfl g1 1 (by kernel_rfl) (.int .u64 (ct : Int)) (fun _ => by kernel_rfl) (fun w M => M.cell 0 rfl (by decide) rfl) ?_
   by_cases c2 : 1152921504606846976 < (ct : Int)
   ·refine pl_val (want_on 10 true rfl 13 rfl (by kernel_rfl)) (some 16) rfl (.bool false) (fun w => Eq.trans (b := .ok (.value (.bool (decide ((ct : Int) ≤ 1152921504606846976)))) w) (by kernel_rfl) (by rw [decide_eq_false (by omega)])) <| rV 19 <| nT <| wp_ret ?_
    have e0 : mbB rc ct rk lf = false := decide_eq_false (by omega)
    exact bodyPost_ret (v := .bool false) (results_tmp1 Tryz.results23 _ _ _ (by kernel_rfl)) (by kernel_rfl) ⟨by rw [e0], below_grown M.old⟩
   ·refine pl_val (want_on 10 true rfl 13 rfl (by kernel_rfl)) (some 16) rfl (.bool true) (fun w => Eq.trans (b := .ok (.value (.bool (decide ((ct : Int) ≤ 1152921504606846976)))) w) (by kernel_rfl) (by rw [decide_eq_true (by omega)])) <| rV 3 <| pl_cell M (want_on 15 true rfl 18 rfl (by kernel_rfl)) (some 20) rfl 24 _ rfl g1 2 (by kernel_rfl) (.int .u64 (rk : Int)) (fun _ => by kernel_rfl) (fun w M => M.cell 0 rfl (by decide) rfl) ?_
    by_cases c3 : (rk : Int) < 1
    ·refine pl_val (want_on 15 true rfl 18 rfl (by kernel_rfl)) (some 21) rfl (.bool false) (fun w => Eq.trans (b := .ok (.value (.bool (decide (1 ≤ (rk : Int))))) w) (by kernel_rfl) (by rw [decide_eq_false (by omega)])) <| rV 14 <| nT <| wp_ret ?_
     have e0 : mbB rc ct rk lf = false := decide_eq_false (by omega)
     exact bodyPost_ret (v := .bool false) (results_tmp1 Tryz.results23 _ _ _ (by kernel_rfl)) (by kernel_rfl) ⟨by rw [e0], below_grown M.old⟩
    ·refine pl_val (want_on 15 true rfl 18 rfl (by kernel_rfl)) (some 21) rfl (.bool true) (fun w => Eq.trans (b := .ok (.value (.bool (decide (1 ≤ (rk : Int))))) w) (by kernel_rfl) (by rw [decide_eq_true (by omega)])) <| rV 3 <| pl_cell M (want_on 20 true rfl 23 rfl (by kernel_rfl)) (some 25) rfl 24 _ rfl g1 2 (by kernel_rfl) (.int .u64 (rk : Int)) (fun _ => by kernel_rfl) (fun w M => M.cell 0 rfl (by decide) rfl) <| rV 1 <| pl_cell M (want_on 20 true rfl 23 rfl (by kernel_rfl)) (some 27) rfl 24 _ rfl g1 3 (by kernel_rfl) (.int .u64 (lf : Int)) (fun _ => by kernel_rfl) (fun w M => M.cell 0 rfl (by decide) rfl) ?_
     by_cases c4 : (lf : Int) < (rk : Int)
     ·refine pl_val (want_on 20 true rfl 23 rfl (by kernel_rfl)) (some 28) rfl (.bool false) (fun w => Eq.trans (b := .ok (.value (.bool (decide ((rk : Int) ≤ (lf : Int))))) w) (by kernel_rfl) (by rw [decide_eq_false (by omega)])) <| rV 7 <| nT <| wp_ret ?_
      have e0 : mbB rc ct rk lf = false := decide_eq_false (by omega)
      exact bodyPost_ret (v := .bool false) (results_tmp1 Tryz.results23 _ _ _ (by kernel_rfl)) (by kernel_rfl) ⟨by rw [e0], below_grown M.old⟩
     ·refine pl_val (want_on 20 true rfl 23 rfl (by kernel_rfl)) (some 28) rfl (.bool true) (fun w => Eq.trans (b := .ok (.value (.bool (decide ((rk : Int) ≤ (lf : Int))))) w) (by kernel_rfl) (by rw [decide_eq_true (by omega)])) <| rV 3 <| pl_cell M (want_on 27 true rfl 30 rfl (by kernel_rfl)) (some 32) rfl 24 _ rfl g1 3 (by kernel_rfl) (.int .u64 (lf : Int)) (fun _ => by kernel_rfl) (fun w M => M.cell 0 rfl (by decide) rfl) ?_
      by_cases c5 : 1152921504606846976 < (lf : Int)
      ·refine pl_val (want_on 27 true rfl 30 rfl (by kernel_rfl)) (some 33) rfl (.bool false) (fun w => Eq.trans (b := .ok (.value (.bool (decide ((lf : Int) ≤ 1152921504606846976)))) w) (by kernel_rfl) (by rw [decide_eq_false (by omega)])) <| rV 2 <| nT <| wp_ret ?_
       have e0 : mbB rc ct rk lf = false := decide_eq_false (by omega)
       exact bodyPost_ret (v := .bool false) (results_tmp1 Tryz.results23 _ _ _ (by kernel_rfl)) (by kernel_rfl) ⟨by rw [e0], below_grown M.old⟩
      ·refine pl_val (want_on 27 true rfl 30 rfl (by kernel_rfl)) (some 33) rfl (.bool true) (fun w => Eq.trans (b := .ok (.value (.bool (decide ((lf : Int) ≤ 1152921504606846976)))) w) (by kernel_rfl) (by rw [decide_eq_true (by omega)])) <| rV 2 <| nT <| wp_ret ?_
       have e0 : mbB rc ct rk lf = true := decide_eq_true (by omega)
       exact bodyPost_ret (v := .bool true) (results_tmp1 Tryz.results23 _ _ _ (by kernel_rfl)) (by kernel_rfl) ⟨by rw [e0], below_grown M.old⟩
theorem c_ageSince {mt : Nat} (w : World) (hL : Laid w) : Calls Tryz.prog 25 #[.int .u64 (mt : Int)] w fun r w' => ∃ md, r = .returned (.func (.func 49) #[] #[.pointer (some ⟨md, 0, none⟩)]) ∧ w.heap.size ≤ md ∧ w'.heap[md]? = some (.cells (av 1 (ls [.int .u64 (mt : Int)])) 24) ∧ Below w.heap.size w w' := by
 go_enter Tryz.func25, Tryz.ntmps25
 have M := Mem.start hL
 refine sR <| pN M 1 (.cells (av 1 (ls [.int .u64 (mt : Int)])) 24) fun g1 u1 M => ?_
 replace M : Mem ⟨w, []⟩ [⟨g1, .cells (av 1 (ls [.int .u64 (mt : Int)])) 24⟩] u1 := M
 refine rV 1 <| nT <| sq <| wp_ret ?_
 exact bodyPost_ret (v := .func (.func 49) #[] #[.pointer (some ⟨g1, 0, none⟩)]) (results_tmp1 Tryz.results25 _ _ _ (by kernel_rfl)) (by kernel_rfl) ⟨_, rfl, ((M.ge _ (List.mem_singleton.2 rfl)).resolve_right (by simp)), M.get 0 rfl, below_grown M.old⟩
theorem c_TNewE {y0 y1 sd rv y4 : Yb} {fi : Bool} {mt rc ct rk lf : Nat} {z : Int} (hz : sd.size = 32 → rv.size = 32 → mbB rc ct rk lf = true → z < 1 ∨ 4096 < z) (w : World) (hL : Laid w)  : Cs 7 #[.agg (av 5 (ls [.string y0, .string y1, .string sd, .string rv, .string y4])), .bool (fi), .int .u64 (mt : Int), .agg (av 5 (ls [.int .u64 (rc : Int), .int .u64 (ct : Int), .int .u64 (rk : Int), .int .u64 (lf : Int), .int .i64 z]))] w (.tuple #[.pointer none, .int .i64 2]) := by
 go_enter Tryz.func7, Tryz.ntmps7
 have M := Mem.start hL
 refine sR <| pN M 4 (.cells (av 5 (ls [.string y0, .string y1, .string sd, .string rv, .string y4])) 23) fun g1 u1 M => ?_
 replace M : Mem ⟨w, []⟩ [⟨g1, .cells (av 5 (ls [.string y0, .string y1, .string sd, .string rv, .string y4])) 23⟩] u1 := M
 refine pN M 7 (.cells (av 5 (ls [.int .u64 (rc : Int), .int .u64 (ct : Int), .int .u64 (rk : Int), .int .u64 (lf : Int), .int .i64 z])) 26) fun g2 u2 M => ?_
 replace M : Mem ⟨w, []⟩ [⟨g1, .cells (av 5 (ls [.string y0, .string y1, .string sd, .string rv, .string y4])) 23⟩, ⟨g2, .cells (av 5 (ls [.int .u64 (rc : Int), .int .u64 (ct : Int), .int .u64 (rk : Int), .int .u64 (lf : Int), .int .i64 z])) 26⟩] u2 := M
 refine rV 2 <| nT <| wp_seq <| sR <| rV 1 <| ZE M 13 0 2 <| rV 1 ?_
 by_cases c0 : (sd.size : Int) = 32
 ·refine pH 15 (.bool false) (jD ((sd.size : Int) = 32) (c0)) <| rV 2 <| pl_cell M (want_on 4 false rfl 16 rfl (by kernel_rfl)) (some 18) rfl 9 _ rfl g1 3 (by kernel_rfl) (.string rv) (fun _ => by kernel_rfl) (fun w M => M.cell 0 rfl (by decide) rfl) <| rV 1 ?_
  by_cases c1 : (rv.size : Int) = 32
  ·refine pl_val (want_on 4 false rfl 16 rfl (by kernel_rfl)) (some 20) rfl (.bool false) (fun w => Eq.trans (b := .ok (.value (.bool (!(decide ((rv.size : Int) = 32))))) w) (by kernel_rfl) (by rw [decide_eq_true (c1)]; rfl)) ?_
   refine rV 2 <| pl_load M (want_on 10 false rfl 22 rfl (by kernel_rfl)) (some 23) rfl 26 _ rfl 1 g2 0 (by kernel_rfl) 5 26 (ls [.int .u64 (rc : Int), .int .u64 (ct : Int), .int .u64 (rk : Int), .int .u64 (lf : Int), .int .i64 z]) rfl 5 (ls [.int .u64 (rc : Int), .int .u64 (ct : Int), .int .u64 (rk : Int), .int .u64 (lf : Int), .int .i64 z]) (fun j _ => by rw [Nat.zero_add]) (by decide) _ Tryz.underlying26 rfl inz26 ?_
   rcases Bool.eq_false_or_eq_true (mbB rc ct rk lf) with c2 | c2
   ·refine pl_call M (want_on 10 false rfl 22 rfl (by kernel_rfl)) (some 24) rfl 23 #[.agg (av 5 (ls [.int .u64 (rc : Int), .int .u64 (ct : Int), .int .u64 (rk : Int), .int .u64 (lf : Int), .int .i64 z]))] (.bool true) (fun _ => by kernel_rfl) (fun w M => call_val (c_mayBe w M.laid) (congrArg Value.bool c2)) fun u3 M => rV 2 <| nT <| cF <| wp_skip <| au_then <| sR <| rV 1 <| ZE M 29 1 4 <| ZC M 30 (fun w M => c_NewE z (hz (by omega) (by omega) c2) w M.laid) fun u4 M => rV 5 <| nT <| wp_seq <| sq <| cT <| sq ?_
    refine wp_ret <| au_then_ret ?_
    exact b1 M
   ·refine pl_call M (want_on 10 false rfl 22 rfl (by kernel_rfl)) (some 24) rfl 23 #[.agg (av 5 (ls [.int .u64 (rc : Int), .int .u64 (ct : Int), .int .u64 (rk : Int), .int .u64 (lf : Int), .int .i64 z]))] (.bool false) (fun _ => by kernel_rfl) (fun w M => call_val (c_mayBe w M.laid) (congrArg Value.bool c2)) fun u3 M => rV 2 <| nT <| cT <| sq <| wp_ret <| au_then_ret ?_
    exact b1 M
  ·refine pl_val (want_on 4 false rfl 16 rfl (by kernel_rfl)) (some 20) rfl (.bool true) (fun w => Eq.trans (b := .ok (.value (.bool (!(decide ((rv.size : Int) = 32))))) w) (by kernel_rfl) (by rw [decide_eq_false (c1)]; rfl)) ?_
   refine rV 6 <| nT <| cT <| sq <| wp_ret <| au_then_ret ?_
   exact b1 M
 ·refine pH 15 (.bool true) (jU ((sd.size : Int) = 32) (c0)) <| rV 11 <| nT <| cT <| sq <| wp_ret <| au_then_ret ?_
  exact b1 M
theorem a_New {y0 y1 sd rv y4 : Yb} {fi : Bool} {mt rc ct rk lf : Nat} {s : Nat} (h1 : sd.size = 32) (h2 : rv.size = 32) (h3 : mbB rc ct rk lf = true) (hs : 1 ≤ s) (hs4 : s ≤ 4096) (w : World) (hL : Laid w) : Calls Tryz.prog 7 #[.agg (av 5 (ls [.string y0, .string y1, .string sd, .string rv, .string y4])), .bool (fi), .int .u64 (mt : Int), .agg (av 5 (ls [.int .u64 (rc : Int), .int .u64 (ct : Int), .int .u64 (rk : Int), .int .u64 (lf : Int), .int .i64 (s : Int)]))] w fun r w' => ∃ x : Nat × List Blk, r = .returned (.tuple #[.pointer (some ⟨x.1, 0, none⟩), .int .i64 0]) ∧ IsT x.1 ⟨rc, ct, rk, lf, s, 0, mt, sd, rv, fi, fi, []⟩ x.2 ∧ OkT w w' [] x.2 := by
 go_enter Tryz.func7, Tryz.ntmps7
 have M := Mem.start hL
 refine sR <| pN M 4 (.cells (av 5 (ls [.string y0, .string y1, .string sd, .string rv, .string y4])) 23) fun g1 u1 M => ?_
 replace M : Mem ⟨w, []⟩ [⟨g1, .cells (av 5 (ls [.string y0, .string y1, .string sd, .string rv, .string y4])) 23⟩] u1 := M
 refine pN M 7 (.cells (av 5 (ls [.int .u64 (rc : Int), .int .u64 (ct : Int), .int .u64 (rk : Int), .int .u64 (lf : Int), .int .i64 (s : Int)])) 26) fun g2 u2 M => ?_
 replace M : Mem ⟨w, []⟩ [⟨g1, .cells (av 5 (ls [.string y0, .string y1, .string sd, .string rv, .string y4])) 23⟩, ⟨g2, .cells (av 5 (ls [.int .u64 (rc : Int), .int .u64 (ct : Int), .int .u64 (rk : Int), .int .u64 (lf : Int), .int .i64 (s : Int)])) 26⟩] u2 := M
 refine rV 2 <| nT <| wp_seq <| sR <| rV 1 <| ZE M 13 0 2 <| rV 1 ?_
 by_cases c0 : (sd.size : Int) = 32
 ·refine pH 15 (.bool false) (jD ((sd.size : Int) = 32) (c0)) <| rV 2 <| pl_cell M (want_on 4 false rfl 16 rfl (by kernel_rfl)) (some 18) rfl 9 _ rfl g1 3 (by kernel_rfl) (.string rv) (fun _ => by kernel_rfl) (fun w M => M.cell 0 rfl (by decide) rfl) <| rV 1 ?_
  by_cases c1 : (rv.size : Int) = 32
  ·refine pl_val (want_on 4 false rfl 16 rfl (by kernel_rfl)) (some 20) rfl (.bool false) (fun w => Eq.trans (b := .ok (.value (.bool (!(decide ((rv.size : Int) = 32))))) w) (by kernel_rfl) (by rw [decide_eq_true (c1)]; rfl)) ?_
   refine rV 2 <| pl_load M (want_on 10 false rfl 22 rfl (by kernel_rfl)) (some 23) rfl 26 _ rfl 1 g2 0 (by kernel_rfl) 5 26 (ls [.int .u64 (rc : Int), .int .u64 (ct : Int), .int .u64 (rk : Int), .int .u64 (lf : Int), .int .i64 (s : Int)]) rfl 5 (ls [.int .u64 (rc : Int), .int .u64 (ct : Int), .int .u64 (rk : Int), .int .u64 (lf : Int), .int .i64 (s : Int)]) (fun j _ => by rw [Nat.zero_add]) (by decide) _ Tryz.underlying26 rfl inz26 <| pl_call M (want_on 10 false rfl 22 rfl (by kernel_rfl)) (some 24) rfl 23 #[.agg (av 5 (ls [.int .u64 (rc : Int), .int .u64 (ct : Int), .int .u64 (rk : Int), .int .u64 (lf : Int), .int .i64 (s : Int)]))] (.bool true) (fun _ => by kernel_rfl) (fun w M => call_val (c_mayBe w M.laid) (congrArg Value.bool h3)) fun u3 M => rV 2 <| nT <| cF <| wp_skip <| au_then <| sR <| rV 1 <| ZE M 29 1 4 <| pl_callM M (want_no rfl) (some 30) rfl 24 #[.int .i64 (s : Int)] [⟨g1, .cells (av 5 (ls [.string y0, .string y1, .string sd, .string rv, .string y4])) 23⟩, ⟨g2, .cells (av 5 (ls [.int .u64 (rc : Int), .int .u64 (ct : Int), .int .u64 (rk : Int), .int .u64 (lf : Int), .int .i64 (s : Int)])) 26⟩] [] [] (by simp only [List.append_assoc, List.cons_append, List.nil_append, List.append_nil]) (fun x : Nat × Nat => .tuple #[.pointer (some ⟨x.1, 0, none⟩), .int .i64 0]) (fun x : Nat × Nat => [⟨x.1, .cells (av 3 (ls [.int .u64 (s : Int), .int .u64 0, .slice (some ⟨x.2, 0, none⟩) (nW s) (nW s)])) 121⟩, ⟨x.2, .cells (av (nW s) (w64 (fun _ => 0))) 24⟩]) (fun x : Nat × Nat => True) (fun _ => by kernel_rfl) (fun w hL hT => c_WNew s hs hs4 w hL) ?_
   rintro ⟨wd, k⟩ u4 - M
   replace M : Mem ⟨w, []⟩ [⟨g1, .cells (av 5 (ls [.string y0, .string y1, .string sd, .string rv, .string y4])) 23⟩, ⟨g2, .cells (av 5 (ls [.int .u64 (rc : Int), .int .u64 (ct : Int), .int .u64 (rk : Int), .int .u64 (lf : Int), .int .i64 (s : Int)])) 26⟩, ⟨wd, .cells (av 3 (ls [.int .u64 (s : Int), .int .u64 0, .slice (some ⟨k, 0, none⟩) (nW s) (nW s)])) 121⟩, ⟨k, .cells (av (nW s) (w64 (fun _ => 0))) 24⟩] u4 := by simpa only [List.append_assoc, List.cons_append, List.nil_append, List.append_nil] using M
   refine rV 5 <| nT <| wp_seq <| sq <| cF <| wp_skip <| au_then <| wp_seq <| rg_held M [⟨g1, .cells (av 5 (ls [.string y0, .string y1, .string sd, .string rv, .string y4])) 23⟩, ⟨g2, .cells (av 5 (ls [.int .u64 (rc : Int), .int .u64 (ct : Int), .int .u64 (rk : Int), .int .u64 (lf : Int), .int .i64 (s : Int)])) 26⟩, ⟨wd, .cells (av 3 (ls [.int .u64 (s : Int), .int .u64 0, .slice (some ⟨k, 0, none⟩) (nW s) (nW s)])) 121⟩, ⟨k, .cells (av (nW s) (w64 (fun _ => 0))) 24⟩] 15 rfl (by kernel_rfl) (by kernel_rfl) (fun _ _ d _ _ h => by cases d <;> exact h) fun u5 M => ?_
   replace M : Mem ⟨w, []⟩ [⟨g1, .cells (av 5 (ls [.string y0, .string y1, .string sd, .string rv, .string y4])) 23⟩, ⟨g2, .cells (av 5 (ls [.int .u64 (rc : Int), .int .u64 (ct : Int), .int .u64 (rk : Int), .int .u64 (lf : Int), .int .i64 (s : Int)])) 26⟩, ⟨wd, .cells (av 3 (ls [.int .u64 (s : Int), .int .u64 0, .slice (some ⟨k, 0, none⟩) (nW s) (nW s)])) 121⟩, ⟨k, .cells (av (nW s) (w64 (fun _ => 0))) 24⟩] u5 := M
   refine qV M 0 36 (.pointer (some ⟨wd, 0, none⟩)) <| qV M 1 37 (.int .u64 (mt : Int)) <| hl_load M 3 rfl (by decide) (by kernel_rfl) (by kernel_rfl) (want_no rfl) (some 39) rfl 26 _ rfl 1 g2 0 (by kernel_rfl) 5 26 (ls [.int .u64 (rc : Int), .int .u64 (ct : Int), .int .u64 (rk : Int), .int .u64 (lf : Int), .int .i64 (s : Int)]) rfl 5 (ls [.int .u64 (rc : Int), .int .u64 (ct : Int), .int .u64 (rk : Int), .int .u64 (lf : Int), .int .i64 (s : Int)]) (fun j _ => by rw [Nat.zero_add]) (by decide) _ Tryz.underlying26 rfl inz26 <| qV M 4 40 (.pointer (some ⟨g1, 2, none⟩)) <| hl_cell M 5 rfl (by decide) (by kernel_rfl) (by kernel_rfl) (want_no rfl) (some 41) rfl 9 _ rfl g1 2 (by kernel_rfl) (.string sd) (fun _ => by kernel_rfl) (fun w M => M.cell 0 rfl (by decide) rfl) <| qV M 6 42 (.pointer (some ⟨g1, 3, none⟩)) <| hl_cell M 7 rfl (by decide) (by kernel_rfl) (by kernel_rfl) (want_no rfl) (some 43) rfl 9 _ rfl g1 3 (by kernel_rfl) (.string rv) (fun _ => by kernel_rfl) (fun w M => M.cell 0 rfl (by decide) rfl) <| qV M 8 44 (.bool (fi)) <| qV M 9 45 (.bool (fi)) <| hl_one 2 (by decide) (by kernel_rfl) rfl <| pl_calln M (want_no rfl) (some 38) rfl 25 #[.int .u64 (mt : Int)] (fun g3 => .func (.func 49) #[] #[.pointer (some ⟨g3, 0, none⟩)]) (.cells (av 1 (ls [.int .u64 (mt : Int)])) 24) (fun _ => by kernel_rfl) (fun w M => c_ageSince w M.laid) fun g3 u6 M => ?_
   replace M : Mem ⟨w, []⟩ [⟨g1, .cells (av 5 (ls [.string y0, .string y1, .string sd, .string rv, .string y4])) 23⟩, ⟨g2, .cells (av 5 (ls [.int .u64 (rc : Int), .int .u64 (ct : Int), .int .u64 (rk : Int), .int .u64 (lf : Int), .int .i64 (s : Int)])) 26⟩, ⟨wd, .cells (av 3 (ls [.int .u64 (s : Int), .int .u64 0, .slice (some ⟨k, 0, none⟩) (nW s) (nW s)])) 121⟩, ⟨k, .cells (av (nW s) (w64 (fun _ => 0))) 24⟩, ⟨g3, .cells (av 1 (ls [.int .u64 (mt : Int)])) 24⟩] u6 := M
   refine nT ?_
   refine ⟨(M.drop (.cons_cons _ (.cons_cons _ (.cons_cons _ (.cons_cons _ (.cons _ (.slnil))))))), ?_⟩
   refine qV (M.drop (.cons_cons _ (.cons_cons _ (.cons_cons _ (.cons_cons _ (.cons _ (.slnil))))))) 10 46 (.agg (av 12 (ls [.pointer (some ⟨wd, 0, none⟩), .func (.func 49) #[] #[.pointer (some ⟨g3, 0, none⟩)], .int .u64 (rc : Int), .int .u64 (ct : Int), .int .u64 (rk : Int), .int .u64 (lf : Int), .int .i64 (s : Int), .string sd, .string rv, .bool (fi), .bool (fi), .int .u64 0]))) <| hl_one 11 (by decide) (by kernel_rfl) rfl <| pN M 47 (.cells (av 12 (ls [.pointer (some ⟨wd, 0, none⟩), .func (.func 49) #[] #[.pointer (some ⟨g3, 0, none⟩)], .int .u64 (rc : Int), .int .u64 (ct : Int), .int .u64 (rk : Int), .int .u64 (lf : Int), .int .i64 (s : Int), .string sd, .string rv, .bool (fi), .bool (fi), .int .u64 0])) 89) fun g4 u7 M => ?_
   replace M : Mem ⟨w, []⟩ [⟨g1, .cells (av 5 (ls [.string y0, .string y1, .string sd, .string rv, .string y4])) 23⟩, ⟨g2, .cells (av 5 (ls [.int .u64 (rc : Int), .int .u64 (ct : Int), .int .u64 (rk : Int), .int .u64 (lf : Int), .int .i64 (s : Int)])) 26⟩, ⟨wd, .cells (av 3 (ls [.int .u64 (s : Int), .int .u64 0, .slice (some ⟨k, 0, none⟩) (nW s) (nW s)])) 121⟩, ⟨k, .cells (av (nW s) (w64 (fun _ => 0))) 24⟩, ⟨g3, .cells (av 1 (ls [.int .u64 (mt : Int)])) 24⟩, ⟨g4, .cells (av 12 (ls [.pointer (some ⟨wd, 0, none⟩), .func (.func 49) #[] #[.pointer (some ⟨g3, 0, none⟩)], .int .u64 (rc : Int), .int .u64 (ct : Int), .int .u64 (rk : Int), .int .u64 (lf : Int), .int .i64 (s : Int), .string sd, .string rv, .bool (fi), .bool (fi), .int .u64 0])) 89⟩] u7 := M
   refine nT ?_
   refine ⟨(M.drop (.cons_cons _ (.cons_cons _ (.cons_cons _ (.cons_cons _ (.cons _ (.cons _ (.slnil)))))))), ?_⟩
   refine qV (M.drop (.cons_cons _ (.cons_cons _ (.cons_cons _ (.cons_cons _ (.cons _ (.cons _ (.slnil)))))))) 12 48 (.agg (av 1 (ls [.pointer (some ⟨g4, 0, none⟩)]))) <| hl_one 13 (by decide) (by kernel_rfl) rfl <| pN M 49 (.cells (av 1 (ls [.pointer (some ⟨g4, 0, none⟩)])) 91) fun g5 u8 M => ?_
   replace M : Mem ⟨w, []⟩ [⟨g1, .cells (av 5 (ls [.string y0, .string y1, .string sd, .string rv, .string y4])) 23⟩, ⟨g2, .cells (av 5 (ls [.int .u64 (rc : Int), .int .u64 (ct : Int), .int .u64 (rk : Int), .int .u64 (lf : Int), .int .i64 (s : Int)])) 26⟩, ⟨wd, .cells (av 3 (ls [.int .u64 (s : Int), .int .u64 0, .slice (some ⟨k, 0, none⟩) (nW s) (nW s)])) 121⟩, ⟨k, .cells (av (nW s) (w64 (fun _ => 0))) 24⟩, ⟨g3, .cells (av 1 (ls [.int .u64 (mt : Int)])) 24⟩, ⟨g4, .cells (av 12 (ls [.pointer (some ⟨wd, 0, none⟩), .func (.func 49) #[] #[.pointer (some ⟨g3, 0, none⟩)], .int .u64 (rc : Int), .int .u64 (ct : Int), .int .u64 (rk : Int), .int .u64 (lf : Int), .int .i64 (s : Int), .string sd, .string rv, .bool (fi), .bool (fi), .int .u64 0])) 89⟩, ⟨g5, .cells (av 1 (ls [.pointer (some ⟨g4, 0, none⟩)])) 91⟩] u8 := M
   refine nT ?_
   refine ⟨(M.drop (.cons_cons _ (.cons_cons _ (.cons_cons _ (.cons_cons _ (.cons _ (.cons _ (.cons _ (.slnil))))))))), ?_⟩
   refine qV (M.drop (.cons_cons _ (.cons_cons _ (.cons_cons _ (.cons_cons _ (.cons _ (.cons _ (.cons _ (.slnil))))))))) 14 8 (.pointer (some ⟨g5, 0, none⟩)) <| hl_end (by kernel_rfl) (by kernel_rfl) rfl <| rV 1 <| nT <| au_then <| wp_ret ?_
   exact bodyPost_ret (v := .tuple #[.pointer (some ⟨g5, 0, none⟩), .int .i64 0]) (results_tmp2 Tryz.results7 _ _ _ _ (by kernel_rfl) (by kernel_rfl)) (by kernel_rfl) ⟨(_, _), rfl, ⟨_, _, _, _, _, _, rfl, inv_new s, by decide⟩, Mem.okT0 (T := []) ((M.drop (.cons _ (.cons _ (List.Sublist.refl _)))).perm ((List.perm_append_comm (l₁ := [_, _, _]) (l₂ := [_, _])).trans (.swap _ _ _)))⟩
  ·exfalso; omega
 ·exfalso; omega
theorem c_TOver {x : TS} {p e wd k md h : Nat} {m : NI} {n : Nat} (hn : n < 18446744073709551616) (w : World) (hL : Laid w)  (hT : There w [⟨p, .cells (av 1 (ls [.pointer (some ⟨e, 0, none⟩)])) 91⟩, ⟨e, .cells (av 12 (ls [.pointer (some ⟨wd, 0, none⟩), .func (.func 49) #[] #[.pointer (some ⟨md, 0, none⟩)], .int .u64 ((x.rc : Nat) : Int), .int .u64 ((x.ct : Nat) : Int), .int .u64 ((x.rk : Nat) : Int), .int .u64 ((x.lf : Nat) : Int), .int .i64 ((x.sz : Nat) : Int), .string x.sd, .string x.rv, .bool (x.fi), .bool (x.su), .int .u64 ((x.nx : Nat) : Int)])) 89⟩, ⟨wd, .cells (av 3 (ls [.int .u64 ((x.sz : Nat) : Int), .int .u64 (h : Int), .slice (some ⟨k, 0, none⟩) (nW x.sz) (nW x.sz)])) 121⟩, ⟨k, .cells (av (nW x.sz) (w64 m)) 24⟩, ⟨md, .cells (av 1 (ls [.int .u64 ((x.mt : Nat) : Int)])) 24⟩]) : Cs 10 #[.pointer (some ⟨p, 0, none⟩), .int .u64 (n : Int)] w (.bool (x.ov n)) := by
 go_enter Tryz.func10, Tryz.ntmps10
 have M : Mem ⟨w, [p, e, wd, k, md]⟩ [⟨p, .cells (av 1 (ls [.pointer (some ⟨e, 0, none⟩)])) 91⟩, ⟨e, .cells (av 12 (ls [.pointer (some ⟨wd, 0, none⟩), .func (.func 49) #[] #[.pointer (some ⟨md, 0, none⟩)], .int .u64 ((x.rc : Nat) : Int), .int .u64 ((x.ct : Nat) : Int), .int .u64 ((x.rk : Nat) : Int), .int .u64 ((x.lf : Nat) : Int), .int .i64 ((x.sz : Nat) : Int), .string x.sd, .string x.rv, .bool (x.fi), .bool (x.su), .int .u64 ((x.nx : Nat) : Int)])) 89⟩, ⟨wd, .cells (av 3 (ls [.int .u64 ((x.sz : Nat) : Int), .int .u64 (h : Int), .slice (some ⟨k, 0, none⟩) (nW x.sz) (nW x.sz)])) 121⟩, ⟨k, .cells (av (nW x.sz) (w64 m)) 24⟩, ⟨md, .cells (av 1 (ls [.int .u64 ((x.mt : Nat) : Int)])) 24⟩] w := Mem.startT hL hT
 refine sq <| sR <| rV 1 <| pC M 6 30 #[.pointer (some ⟨p, 0, none⟩)] (.bool true) (fun w M => c_there w M.laid (M.there (.cons_cons _ (List.nil_sublist _)))) fun u1 M => rV 5 <| pl_cell M (want_on 3 false rfl 8 rfl (by kernel_rfl)) (some 12) rfl 85 _ rfl p 0 (by kernel_rfl) (.pointer (some ⟨e, 0, none⟩)) (fun _ => by kernel_rfl) (fun w M => M.cell 0 rfl (by decide) rfl) <| rV 1 ?_
 rcases Bool.eq_false_or_eq_true (x.ov n) with c0 | c0
 ·refine pl_call M (want_on 3 false rfl 8 rfl (by kernel_rfl)) (some 14) rfl 31 #[.pointer (some ⟨e, 0, none⟩), .int .u64 (n : Int)] (.bool true) (fun _ => by kernel_rfl) (fun w M => call_val (c_over hn w M.laid (M.there (.cons _ (.cons_cons _ (.cons _ (.cons _ (.cons_cons _ (List.nil_sublist _)))))))) (congrArg Value.bool c0)) fun u2 M => rV 2 <| nT <| wp_ret ?_
  have e0 : x.ov n = true := c0
  exact bodyPost_ret (v := .bool true) (results_tmp1 Tryz.results10 _ _ _ (by kernel_rfl)) (by kernel_rfl) ⟨by rw [e0], ro_T hT M⟩
 ·refine pl_call M (want_on 3 false rfl 8 rfl (by kernel_rfl)) (some 14) rfl 31 #[.pointer (some ⟨e, 0, none⟩), .int .u64 (n : Int)] (.bool false) (fun _ => by kernel_rfl) (fun w M => call_val (c_over hn w M.laid (M.there (.cons _ (.cons_cons _ (.cons _ (.cons _ (.cons_cons _ (List.nil_sublist _)))))))) (congrArg Value.bool c0)) fun u2 M => rV 2 <| nT <| wp_ret ?_
  have e0 : x.ov n = false := c0
  exact bodyPost_ret (v := .bool false) (results_tmp1 Tryz.results10 _ _ _ (by kernel_rfl)) (by kernel_rfl) ⟨by rw [e0], ro_T hT M⟩
theorem c_TWants {x : TS} {p e wd k md h : Nat} {m : NI} {n : Nat} (hn : n < 18446744073709551616) (w : World) (hL : Laid w)  (hT : There w [⟨p, .cells (av 1 (ls [.pointer (some ⟨e, 0, none⟩)])) 91⟩, ⟨e, .cells (av 12 (ls [.pointer (some ⟨wd, 0, none⟩), .func (.func 49) #[] #[.pointer (some ⟨md, 0, none⟩)], .int .u64 ((x.rc : Nat) : Int), .int .u64 ((x.ct : Nat) : Int), .int .u64 ((x.rk : Nat) : Int), .int .u64 ((x.lf : Nat) : Int), .int .i64 ((x.sz : Nat) : Int), .string x.sd, .string x.rv, .bool (x.fi), .bool (x.su), .int .u64 ((x.nx : Nat) : Int)])) 89⟩, ⟨wd, .cells (av 3 (ls [.int .u64 ((x.sz : Nat) : Int), .int .u64 (h : Int), .slice (some ⟨k, 0, none⟩) (nW x.sz) (nW x.sz)])) 121⟩, ⟨k, .cells (av (nW x.sz) (w64 m)) 24⟩, ⟨md, .cells (av 1 (ls [.int .u64 ((x.mt : Nat) : Int)])) 24⟩]) : Cs 12 #[.pointer (some ⟨p, 0, none⟩), .int .u64 (n : Int)] w (.bool (x.wn n)) := by
 go_enter Tryz.func12, Tryz.ntmps12
 have M : Mem ⟨w, [p, e, wd, k, md]⟩ [⟨p, .cells (av 1 (ls [.pointer (some ⟨e, 0, none⟩)])) 91⟩, ⟨e, .cells (av 12 (ls [.pointer (some ⟨wd, 0, none⟩), .func (.func 49) #[] #[.pointer (some ⟨md, 0, none⟩)], .int .u64 ((x.rc : Nat) : Int), .int .u64 ((x.ct : Nat) : Int), .int .u64 ((x.rk : Nat) : Int), .int .u64 ((x.lf : Nat) : Int), .int .i64 ((x.sz : Nat) : Int), .string x.sd, .string x.rv, .bool (x.fi), .bool (x.su), .int .u64 ((x.nx : Nat) : Int)])) 89⟩, ⟨wd, .cells (av 3 (ls [.int .u64 ((x.sz : Nat) : Int), .int .u64 (h : Int), .slice (some ⟨k, 0, none⟩) (nW x.sz) (nW x.sz)])) 121⟩, ⟨k, .cells (av (nW x.sz) (w64 m)) 24⟩, ⟨md, .cells (av 1 (ls [.int .u64 ((x.mt : Nat) : Int)])) 24⟩] w := Mem.startT hL hT
 refine sq <| sR <| rV 1 <| pC M 6 30 #[.pointer (some ⟨p, 0, none⟩)] (.bool true) (fun w M => c_there w M.laid (M.there (.cons_cons _ (List.nil_sublist _)))) fun u1 M => rV 4 <| pl_cell M (want_on 2 true rfl 7 rfl (by kernel_rfl)) (some 11) rfl 85 _ rfl p 0 (by kernel_rfl) (.pointer (some ⟨e, 0, none⟩)) (fun _ => by kernel_rfl) (fun w M => M.cell 0 rfl (by decide) rfl) <| rV 1 ?_
 rcases Bool.eq_false_or_eq_true (x.wn n) with c0 | c0
 ·refine pl_call M (want_on 2 true rfl 7 rfl (by kernel_rfl)) (some 13) rfl 33 #[.pointer (some ⟨e, 0, none⟩), .int .u64 (n : Int)] (.bool true) (fun _ => by kernel_rfl) (fun w M => call_val (c_wants hn w M.laid (M.there (.cons _ (.cons_cons _ (.cons _ (.cons _ (.cons_cons _ (List.nil_sublist _)))))))) (congrArg Value.bool c0)) fun u2 M => rV 2 <| nT <| wp_ret ?_
  have e0 : x.wn n = true := c0
  exact bodyPost_ret (v := .bool true) (results_tmp1 Tryz.results12 _ _ _ (by kernel_rfl)) (by kernel_rfl) ⟨by rw [e0], ro_T hT M⟩
 ·refine pl_call M (want_on 2 true rfl 7 rfl (by kernel_rfl)) (some 13) rfl 33 #[.pointer (some ⟨e, 0, none⟩), .int .u64 (n : Int)] (.bool false) (fun _ => by kernel_rfl) (fun w M => call_val (c_wants hn w M.laid (M.there (.cons _ (.cons_cons _ (.cons _ (.cons _ (.cons_cons _ (List.nil_sublist _)))))))) (congrArg Value.bool c0)) fun u2 M => rV 2 <| nT <| wp_ret ?_
  have e0 : x.wn n = false := c0
  exact bodyPost_ret (v := .bool false) (results_tmp1 Tryz.results12 _ _ _ (by kernel_rfl)) (by kernel_rfl) ⟨by rw [e0], ro_T hT M⟩
theorem c_TSure {x : TS} {p e wd k md h : Nat} {m : NI} (w : World) (hL : Laid w)  (hT : There w [⟨p, .cells (av 1 (ls [.pointer (some ⟨e, 0, none⟩)])) 91⟩, ⟨e, .cells (av 12 (ls [.pointer (some ⟨wd, 0, none⟩), .func (.func 49) #[] #[.pointer (some ⟨md, 0, none⟩)], .int .u64 ((x.rc : Nat) : Int), .int .u64 ((x.ct : Nat) : Int), .int .u64 ((x.rk : Nat) : Int), .int .u64 ((x.lf : Nat) : Int), .int .i64 ((x.sz : Nat) : Int), .string x.sd, .string x.rv, .bool (x.fi), .bool (x.su), .int .u64 ((x.nx : Nat) : Int)])) 89⟩, ⟨wd, .cells (av 3 (ls [.int .u64 ((x.sz : Nat) : Int), .int .u64 (h : Int), .slice (some ⟨k, 0, none⟩) (nW x.sz) (nW x.sz)])) 121⟩, ⟨k, .cells (av (nW x.sz) (w64 m)) 24⟩, ⟨md, .cells (av 1 (ls [.int .u64 ((x.mt : Nat) : Int)])) 24⟩]) : Cs 14 #[.pointer (some ⟨p, 0, none⟩)] w (.bool (x.su)) := by
 go_enter Tryz.func14, Tryz.ntmps14
 have M : Mem ⟨w, [p, e, wd, k, md]⟩ [⟨p, .cells (av 1 (ls [.pointer (some ⟨e, 0, none⟩)])) 91⟩, ⟨e, .cells (av 12 (ls [.pointer (some ⟨wd, 0, none⟩), .func (.func 49) #[] #[.pointer (some ⟨md, 0, none⟩)], .int .u64 ((x.rc : Nat) : Int), .int .u64 ((x.ct : Nat) : Int), .int .u64 ((x.rk : Nat) : Int), .int .u64 ((x.lf : Nat) : Int), .int .i64 ((x.sz : Nat) : Int), .string x.sd, .string x.rv, .bool (x.fi), .bool (x.su), .int .u64 ((x.nx : Nat) : Int)])) 89⟩, ⟨wd, .cells (av 3 (ls [.int .u64 ((x.sz : Nat) : Int), .int .u64 (h : Int), .slice (some ⟨k, 0, none⟩) (nW x.sz) (nW x.sz)])) 121⟩, ⟨k, .cells (av (nW x.sz) (w64 m)) 24⟩, ⟨md, .cells (av 1 (ls [.int .u64 ((x.mt : Nat) : Int)])) 24⟩] w := Mem.startT hL hT
 refine sq <| sR <| rV 1 <| pC M 4 30 #[.pointer (some ⟨p, 0, none⟩)] (.bool true) (fun w M => c_there w M.laid (M.there (.cons_cons _ (List.nil_sublist _)))) fun u1 M => rV 4 <| pl_cell M (want_on 2 true rfl 5 rfl (by kernel_rfl)) (some 9) rfl 85 _ rfl p 0 (by kernel_rfl) (.pointer (some ⟨e, 0, none⟩)) (fun _ => by kernel_rfl) (fun w M => M.cell 0 rfl (by decide) rfl) <| rV 2 ?_
 rcases Bool.eq_false_or_eq_true (x.su) with c0 | c0
 ·refine pl_cell M (want_on 2 true rfl 5 rfl (by kernel_rfl)) (some 12) rfl 4 _ rfl e 10 (by kernel_rfl) (.bool true) (fun _ => by kernel_rfl) (fun w M => M.cell 1 rfl (by decide) (congrArg Value.bool c0)) <| rV 2 <| nT <| wp_ret ?_
  have e0 : x.su = true := c0
  exact bodyPost_ret (v := .bool true) (results_tmp1 Tryz.results14 _ _ _ (by kernel_rfl)) (by kernel_rfl) ⟨by rw [e0], ro_T hT M⟩
 ·refine pl_cell M (want_on 2 true rfl 5 rfl (by kernel_rfl)) (some 12) rfl 4 _ rfl e 10 (by kernel_rfl) (.bool false) (fun _ => by kernel_rfl) (fun w M => M.cell 1 rfl (by decide) (congrArg Value.bool c0)) <| rV 2 <| nT <| wp_ret ?_
  have e0 : x.su = false := c0
  exact bodyPost_ret (v := .bool false) (results_tmp1 Tryz.results14 _ _ _ (by kernel_rfl)) (by kernel_rfl) ⟨by rw [e0], ro_T hT M⟩
theorem c_TSent {x : TS} {p e wd k md h : Nat} {m : NI} (w : World) (hL : Laid w)  (hT : There w [⟨p, .cells (av 1 (ls [.pointer (some ⟨e, 0, none⟩)])) 91⟩, ⟨e, .cells (av 12 (ls [.pointer (some ⟨wd, 0, none⟩), .func (.func 49) #[] #[.pointer (some ⟨md, 0, none⟩)], .int .u64 ((x.rc : Nat) : Int), .int .u64 ((x.ct : Nat) : Int), .int .u64 ((x.rk : Nat) : Int), .int .u64 ((x.lf : Nat) : Int), .int .i64 ((x.sz : Nat) : Int), .string x.sd, .string x.rv, .bool (x.fi), .bool (x.su), .int .u64 ((x.nx : Nat) : Int)])) 89⟩, ⟨wd, .cells (av 3 (ls [.int .u64 ((x.sz : Nat) : Int), .int .u64 (h : Int), .slice (some ⟨k, 0, none⟩) (nW x.sz) (nW x.sz)])) 121⟩, ⟨k, .cells (av (nW x.sz) (w64 m)) 24⟩, ⟨md, .cells (av 1 (ls [.int .u64 ((x.mt : Nat) : Int)])) 24⟩]) : Cs 15 #[.pointer (some ⟨p, 0, none⟩)] w (.int .u64 ((x.nx : Nat) : Int)) := by
 go_enter Tryz.func15, Tryz.ntmps15
 have M : Mem ⟨w, [p, e, wd, k, md]⟩ [⟨p, .cells (av 1 (ls [.pointer (some ⟨e, 0, none⟩)])) 91⟩, ⟨e, .cells (av 12 (ls [.pointer (some ⟨wd, 0, none⟩), .func (.func 49) #[] #[.pointer (some ⟨md, 0, none⟩)], .int .u64 ((x.rc : Nat) : Int), .int .u64 ((x.ct : Nat) : Int), .int .u64 ((x.rk : Nat) : Int), .int .u64 ((x.lf : Nat) : Int), .int .i64 ((x.sz : Nat) : Int), .string x.sd, .string x.rv, .bool (x.fi), .bool (x.su), .int .u64 ((x.nx : Nat) : Int)])) 89⟩, ⟨wd, .cells (av 3 (ls [.int .u64 ((x.sz : Nat) : Int), .int .u64 (h : Int), .slice (some ⟨k, 0, none⟩) (nW x.sz) (nW x.sz)])) 121⟩, ⟨k, .cells (av (nW x.sz) (w64 m)) 24⟩, ⟨md, .cells (av 1 (ls [.int .u64 ((x.mt : Nat) : Int)])) 24⟩] w := Mem.startT hL hT
 refine sq <| wp_seq <| sR <| rV 1 <| pC M 4 30 #[.pointer (some ⟨p, 0, none⟩)] (.bool true) (fun w M => c_there w M.laid (M.there (.cons_cons _ (List.nil_sublist _)))) fun u1 M => rV 1 <| nT <| cF <| wp_skip <| au_then <| sR <| rV 3 <| ZE M 9 0 0 <| rV 2 <| ZE M 12 1 11 <| rV 1 ?_
 refine nT <| wp_ret ?_
 exact bodyPost_ret (v := .int .u64 ((x.nx : Nat) : Int)) (results_tmp1 Tryz.results15 _ _ _ (by kernel_rfl)) (by kernel_rfl) ⟨rfl, ro_T hT M⟩
theorem c_TSeal {x : TS} {p e wd k md h : Nat} {m : NI} {s : Yb} {n : Nat} (hn : n < 18446744073709551616) (hx : x.nx + 1 < 18446744073709551616) (w : World) (hL : Laid w)  (hT : There w [⟨p, .cells (av 1 (ls [.pointer (some ⟨e, 0, none⟩)])) 91⟩, ⟨e, .cells (av 12 (ls [.pointer (some ⟨wd, 0, none⟩), .func (.func 49) #[] #[.pointer (some ⟨md, 0, none⟩)], .int .u64 ((x.rc : Nat) : Int), .int .u64 ((x.ct : Nat) : Int), .int .u64 ((x.rk : Nat) : Int), .int .u64 ((x.lf : Nat) : Int), .int .i64 ((x.sz : Nat) : Int), .string x.sd, .string x.rv, .bool (x.fi), .bool (x.su), .int .u64 ((x.nx : Nat) : Int)])) 89⟩, ⟨wd, .cells (av 3 (ls [.int .u64 ((x.sz : Nat) : Int), .int .u64 (h : Int), .slice (some ⟨k, 0, none⟩) (nW x.sz) (nW x.sz)])) 121⟩, ⟨k, .cells (av (nW x.sz) (w64 m)) 24⟩, ⟨md, .cells (av 1 (ls [.int .u64 ((x.mt : Nat) : Int)])) 24⟩]) : Calls Tryz.prog 21 #[.pointer (some ⟨p, 0, none⟩), .int .u64 (n : Int), .string s] w fun r w' => r = .returned (.tuple #[.int .u64 ((x.sN n s : Nat) : Int), .string (x.sC n s), .int .i64 (x.sE n s)]) ∧ OkT w w' (tB x p e wd k md h m) (tB (x.sX n s) p e wd k md h m) := by
 go_enter Tryz.func21, Tryz.ntmps21
 have M : Mem ⟨w, [p, e, wd, k, md]⟩ [⟨p, .cells (av 1 (ls [.pointer (some ⟨e, 0, none⟩)])) 91⟩, ⟨e, .cells (av 12 (ls [.pointer (some ⟨wd, 0, none⟩), .func (.func 49) #[] #[.pointer (some ⟨md, 0, none⟩)], .int .u64 ((x.rc : Nat) : Int), .int .u64 ((x.ct : Nat) : Int), .int .u64 ((x.rk : Nat) : Int), .int .u64 ((x.lf : Nat) : Int), .int .i64 ((x.sz : Nat) : Int), .string x.sd, .string x.rv, .bool (x.fi), .bool (x.su), .int .u64 ((x.nx : Nat) : Int)])) 89⟩, ⟨wd, .cells (av 3 (ls [.int .u64 ((x.sz : Nat) : Int), .int .u64 (h : Int), .slice (some ⟨k, 0, none⟩) (nW x.sz) (nW x.sz)])) 121⟩, ⟨k, .cells (av (nW x.sz) (w64 m)) 24⟩, ⟨md, .cells (av 1 (ls [.int .u64 ((x.mt : Nat) : Int)])) 24⟩] w := Mem.startT hL hT
 refine sq <| wp_seq <| sR <| rV 1 <| pC M 11 30 #[.pointer (some ⟨p, 0, none⟩)] (.bool true) (fun w M => c_there w M.laid (M.there (.cons_cons _ (List.nil_sublist _)))) fun u1 M => rV 1 <| nT <| cF <| wp_skip <| au_then <| wp_seq <| sR <| rV 3 <| ZE M 16 0 0 <| rV 1 <| pC M 18 44 #[.pointer (some ⟨e, 0, none⟩), .int .u64 (n : Int)] (.int .i64 (slF x.sd x.su x.ct x.lf x.nx x.mt n)) (fun w M => c_sealFault hn w M.laid (M.there (.cons _ (.cons_cons _ (.cons _ (.cons _ (.cons_cons _ (List.nil_sublist _)))))))) fun u2 M => ?_
 refine rV 1 <| nT <| sR <| rV 1 ?_
 by_cases c0 : (slF x.sd x.su x.ct x.lf x.nx x.mt n) = 0
 ·refine pH 20 (.bool false) (jD ((slF x.sd x.su x.ct x.lf x.nx x.mt n) = 0) (c0)) <| nT <| cF <| wp_skip <| au_then <| sR <| rV 3 <| ZE M 25 0 0 <| rV 1 <| pl_callp M (want_no rfl) (some 27) rfl 45 #[.pointer (some ⟨e, 0, none⟩), .string s] (.tuple #[.int .u64 ((slN x.sd x.nx s : Nat) : Int), .string (slC x.sd x.nx s), .int .i64 (slZ x.sd x.nx s)]) 1 e (.cells (av 12 (ls [.pointer (some ⟨wd, 0, none⟩), .func (.func 49) #[] #[.pointer (some ⟨md, 0, none⟩)], .int .u64 ((x.rc : Nat) : Int), .int .u64 ((x.ct : Nat) : Int), .int .u64 ((x.rk : Nat) : Int), .int .u64 ((x.lf : Nat) : Int), .int .i64 ((x.sz : Nat) : Int), .string x.sd, .string x.rv, .bool (x.fi), .bool (x.su), .int .u64 ((x.nx : Nat) : Int)])) 89) (.cells (av 12 (ls [.pointer (some ⟨wd, 0, none⟩), .func (.func 49) #[] #[.pointer (some ⟨md, 0, none⟩)], .int .u64 ((x.rc : Nat) : Int), .int .u64 ((x.ct : Nat) : Int), .int .u64 ((x.rk : Nat) : Int), .int .u64 ((x.lf : Nat) : Int), .int .i64 ((x.sz : Nat) : Int), .string x.sd, .string x.rv, .bool (x.fi), .bool (x.su), .int .u64 ((slX x.sd x.nx s : Nat) : Int)])) 89) rfl (fun _ => by kernel_rfl) (fun w M => c_seal hx w M.laid (M.there (.cons _ (.cons_cons _ (List.nil_sublist _))))) fun u3 M => ?_
  replace M : Mem ⟨w, [p, e, wd, k, md]⟩ [⟨p, .cells (av 1 (ls [.pointer (some ⟨e, 0, none⟩)])) 91⟩, ⟨e, .cells (av 12 (ls [.pointer (some ⟨wd, 0, none⟩), .func (.func 49) #[] #[.pointer (some ⟨md, 0, none⟩)], .int .u64 ((x.rc : Nat) : Int), .int .u64 ((x.ct : Nat) : Int), .int .u64 ((x.rk : Nat) : Int), .int .u64 ((x.lf : Nat) : Int), .int .i64 ((x.sz : Nat) : Int), .string x.sd, .string x.rv, .bool (x.fi), .bool (x.su), .int .u64 ((slX x.sd x.nx s : Nat) : Int)])) 89⟩, ⟨wd, .cells (av 3 (ls [.int .u64 ((x.sz : Nat) : Int), .int .u64 (h : Int), .slice (some ⟨k, 0, none⟩) (nW x.sz) (nW x.sz)])) 121⟩, ⟨k, .cells (av (nW x.sz) (w64 m)) 24⟩, ⟨md, .cells (av 1 (ls [.int .u64 ((x.mt : Nat) : Int)])) 24⟩] u3 := M
  refine rV 6 <| nT <| wp_ret ?_
  have e0 : x.sF n = (slF x.sd x.su x.ct x.lf x.nx x.mt n) := rfl
  exact bodyPost_ret (v := .tuple #[.int .u64 ((slN x.sd x.nx s : Nat) : Int), .string (slC x.sd x.nx s), .int .i64 (slZ x.sd x.nx s)]) (results_t3 Tryz.results21 _ _ _ _ _ (by kernel_rfl) (by kernel_rfl) (by kernel_rfl)) (by kernel_rfl) ⟨by unfold TS.sN TS.sC TS.sE; rw [e0, if_pos c0, if_pos c0, if_pos c0], by unfold TS.sX; rw [e0, if_pos c0]; exact M.okT0⟩
 ·refine pH 20 (.bool true) (jU ((slF x.sd x.su x.ct x.lf x.nx x.mt n) = 0) (c0)) <| nT <| cT <| sq <| wp_ret <| au_then_ret ?_
  have e0 : x.sF n = (slF x.sd x.su x.ct x.lf x.nx x.mt n) := rfl
  exact bodyPost_ret (v := .tuple #[.int .u64 0, .string ⟨#[]⟩, .int .i64 (slF x.sd x.su x.ct x.lf x.nx x.mt n)]) (results_t3 Tryz.results21 _ _ _ _ _ (by kernel_rfl) (by kernel_rfl) (by kernel_rfl)) (by kernel_rfl) ⟨by unfold TS.sN TS.sC TS.sE; rw [e0, if_neg c0, if_neg c0, if_neg c0]; rfl, by unfold TS.sX; rw [e0, if_neg c0]; exact M.okT0⟩
theorem c_TOpen {x : TS} {p e wd k md h : Nat} {m : NI} {i : Nat} {c : Yb} {n : Nat} (hn : n < 18446744073709551616) (hi : i < 18446744073709551616) (hs : 1 ≤ x.sz) (hh : h < 18446744073709551616) (I : Inv x.sz h m x.q) (w : World) (hL : Laid w)  (hT : There w [⟨p, .cells (av 1 (ls [.pointer (some ⟨e, 0, none⟩)])) 91⟩, ⟨e, .cells (av 12 (ls [.pointer (some ⟨wd, 0, none⟩), .func (.func 49) #[] #[.pointer (some ⟨md, 0, none⟩)], .int .u64 ((x.rc : Nat) : Int), .int .u64 ((x.ct : Nat) : Int), .int .u64 ((x.rk : Nat) : Int), .int .u64 ((x.lf : Nat) : Int), .int .i64 ((x.sz : Nat) : Int), .string x.sd, .string x.rv, .bool (x.fi), .bool (x.su), .int .u64 ((x.nx : Nat) : Int)])) 89⟩, ⟨wd, .cells (av 3 (ls [.int .u64 ((x.sz : Nat) : Int), .int .u64 (h : Int), .slice (some ⟨k, 0, none⟩) (nW x.sz) (nW x.sz)])) 121⟩, ⟨k, .cells (av (nW x.sz) (w64 m)) 24⟩, ⟨md, .cells (av 1 (ls [.int .u64 ((x.mt : Nat) : Int)])) 24⟩]) : Calls Tryz.prog 22 #[.pointer (some ⟨p, 0, none⟩), .int .u64 (n : Int), .int .u64 (i : Int), .string c] w fun r w' => ∃ y : Nat × (Nat → Int), r = .returned (.tuple #[.string (x.oC n i c), .int .i64 (x.oE n i c)]) ∧ (Inv (x.oX n i c).sz y.1 y.2 (x.oX n i c).q ∧ y.1 < 18446744073709551616) ∧ OkT w w' (tB x p e wd k md h m) (tB (x.oX n i c) p e wd k md y.1 y.2) := by
 go_enter Tryz.func22, Tryz.ntmps22
 have M : Mem ⟨w, [p, e, wd, k, md]⟩ [⟨p, .cells (av 1 (ls [.pointer (some ⟨e, 0, none⟩)])) 91⟩, ⟨e, .cells (av 12 (ls [.pointer (some ⟨wd, 0, none⟩), .func (.func 49) #[] #[.pointer (some ⟨md, 0, none⟩)], .int .u64 ((x.rc : Nat) : Int), .int .u64 ((x.ct : Nat) : Int), .int .u64 ((x.rk : Nat) : Int), .int .u64 ((x.lf : Nat) : Int), .int .i64 ((x.sz : Nat) : Int), .string x.sd, .string x.rv, .bool (x.fi), .bool (x.su), .int .u64 ((x.nx : Nat) : Int)])) 89⟩, ⟨wd, .cells (av 3 (ls [.int .u64 ((x.sz : Nat) : Int), .int .u64 (h : Int), .slice (some ⟨k, 0, none⟩) (nW x.sz) (nW x.sz)])) 121⟩, ⟨k, .cells (av (nW x.sz) (w64 m)) 24⟩, ⟨md, .cells (av 1 (ls [.int .u64 ((x.mt : Nat) : Int)])) 24⟩] w := Mem.startT hL hT
 refine sq <| wp_seq <| sR <| rV 1 <| pC M 12 30 #[.pointer (some ⟨p, 0, none⟩)] (.bool true) (fun w M => c_there w M.laid (M.there (.cons_cons _ (List.nil_sublist _)))) fun u1 M => rV 1 <| nT <| cF <| wp_skip <| au_then <| wp_seq <| sR <| rV 3 <| ZE M 17 0 0 <| rV 2 <| pC M 20 46 #[.pointer (some ⟨e, 0, none⟩), .int .u64 (n : Int), .int .u64 (i : Int)] (.int .i64 (opF x.sd x.ct x.lf x.sz x.mt x.q n i)) (fun w M => c_openFault hs hh I hn hi w M.laid (M.there (.cons _ (.cons_cons _ (.cons_cons _ (.cons_cons _ (.cons_cons _ (List.nil_sublist _)))))))) fun u2 M => ?_
 refine rV 1 <| nT <| sR <| rV 1 ?_
 by_cases c0 : (opF x.sd x.ct x.lf x.sz x.mt x.q n i) = 0
 ·refine pH 22 (.bool false) (jD ((opF x.sd x.ct x.lf x.sz x.mt x.q n i) = 0) (c0)) <| nT <| cF <| wp_skip <| au_then <| sR <| rV 3 <| ZE M 27 0 0 <| rV 2 <| pl_callM M (want_no rfl) (some 30) rfl 47 #[.pointer (some ⟨e, 0, none⟩), .int .u64 (i : Int), .string c] [⟨p, .cells (av 1 (ls [.pointer (some ⟨e, 0, none⟩)])) 91⟩] [⟨e, .cells (av 12 (ls [.pointer (some ⟨wd, 0, none⟩), .func (.func 49) #[] #[.pointer (some ⟨md, 0, none⟩)], .int .u64 ((x.rc : Nat) : Int), .int .u64 ((x.ct : Nat) : Int), .int .u64 ((x.rk : Nat) : Int), .int .u64 ((x.lf : Nat) : Int), .int .i64 ((x.sz : Nat) : Int), .string x.sd, .string x.rv, .bool (x.fi), .bool (x.su), .int .u64 ((x.nx : Nat) : Int)])) 89⟩, ⟨wd, .cells (av 3 (ls [.int .u64 ((x.sz : Nat) : Int), .int .u64 (h : Int), .slice (some ⟨k, 0, none⟩) (nW x.sz) (nW x.sz)])) 121⟩, ⟨k, .cells (av (nW x.sz) (w64 m)) 24⟩] [⟨md, .cells (av 1 (ls [.int .u64 ((x.mt : Nat) : Int)])) 24⟩] (by simp only [List.append_assoc, List.cons_append, List.nil_append, List.append_nil]) (fun y : Nat × (Nat → Int) => .tuple #[.string (opC x.rv i c), .int .i64 (opZ x.rv i c)]) (fun y : Nat × (Nat → Int) => [⟨e, .cells (av 12 (ls [.pointer (some ⟨wd, 0, none⟩), .func (.func 49) #[] #[.pointer (some ⟨md, 0, none⟩)], .int .u64 ((x.rc : Nat) : Int), .int .u64 ((x.ct : Nat) : Int), .int .u64 ((x.rk : Nat) : Int), .int .u64 ((x.lf : Nat) : Int), .int .i64 ((x.sz : Nat) : Int), .string x.sd, .string x.rv, .bool (x.fi), .bool (opU x.su x.rv i c), .int .u64 ((x.nx : Nat) : Int)])) 89⟩, ⟨wd, .cells (av 3 (ls [.int .u64 ((x.sz : Nat) : Int), .int .u64 ((y.1 : Nat) : Int), .slice (some ⟨k, 0, none⟩) (nW x.sz) (nW x.sz)])) 121⟩, ⟨k, .cells (av (nW x.sz) (w64 y.2)) 24⟩]) (fun y : Nat × (Nat → Int) => Inv x.sz y.1 y.2 (opQ x.sz x.q x.rv i c) ∧ y.1 < 18446744073709551616) (fun _ => by kernel_rfl) (fun w hL hT => c_open hs hh I hi w hL hT) ?_
  rintro ⟨h2, m2⟩ u3 ⟨I2, hh2⟩ M
  replace M : Mem ⟨w, [p, e, wd, k, md]⟩ [⟨p, .cells (av 1 (ls [.pointer (some ⟨e, 0, none⟩)])) 91⟩, ⟨e, .cells (av 12 (ls [.pointer (some ⟨wd, 0, none⟩), .func (.func 49) #[] #[.pointer (some ⟨md, 0, none⟩)], .int .u64 ((x.rc : Nat) : Int), .int .u64 ((x.ct : Nat) : Int), .int .u64 ((x.rk : Nat) : Int), .int .u64 ((x.lf : Nat) : Int), .int .i64 ((x.sz : Nat) : Int), .string x.sd, .string x.rv, .bool (x.fi), .bool (opU x.su x.rv i c), .int .u64 ((x.nx : Nat) : Int)])) 89⟩, ⟨wd, .cells (av 3 (ls [.int .u64 ((x.sz : Nat) : Int), .int .u64 (h2 : Int), .slice (some ⟨k, 0, none⟩) (nW x.sz) (nW x.sz)])) 121⟩, ⟨k, .cells (av (nW x.sz) (w64 m2)) 24⟩, ⟨md, .cells (av 1 (ls [.int .u64 ((x.mt : Nat) : Int)])) 24⟩] u3 := by simpa only [List.append_assoc, List.cons_append, List.nil_append, List.append_nil] using M
  refine rV 4 <| nT <| wp_ret ?_
  have e0 : x.oF n i = (opF x.sd x.ct x.lf x.sz x.mt x.q n i) := rfl
  exact bodyPost_ret (v := .tuple #[.string (opC x.rv i c), .int .i64 (opZ x.rv i c)]) (results_tmp2 Tryz.results22 _ _ _ _ (by kernel_rfl) (by kernel_rfl)) (by kernel_rfl) ⟨(h2, m2), by unfold TS.oC TS.oE; rw [e0, if_pos c0, if_pos c0], by unfold TS.oX; rw [e0, if_pos c0]; exact ⟨I2, hh2⟩, by unfold TS.oX; rw [e0, if_pos c0]; exact M.okT0⟩
 ·refine pH 22 (.bool true) (jU ((opF x.sd x.ct x.lf x.sz x.mt x.q n i) = 0) (c0)) <| nT <| cT <| sq <| wp_ret <| au_then_ret ?_
  have e0 : x.oF n i = (opF x.sd x.ct x.lf x.sz x.mt x.q n i) := rfl
  exact bodyPost_ret (v := .tuple #[.string ⟨#[]⟩, .int .i64 (opF x.sd x.ct x.lf x.sz x.mt x.q n i)]) (results_tmp2 Tryz.results22 _ _ _ _ (by kernel_rfl) (by kernel_rfl)) (by kernel_rfl) ⟨(h, m), by unfold TS.oC TS.oE; rw [e0, if_neg c0, if_neg c0], by unfold TS.oX; rw [e0, if_neg c0]; exact ⟨I, hh⟩, by unfold TS.oX; rw [e0, if_neg c0]; exact M.okT0⟩
theorem c_TWipe {x : TS} {p e wd k md h : Nat} {m : NI} (w : World) (hL : Laid w)  (hT : There w [⟨p, .cells (av 1 (ls [.pointer (some ⟨e, 0, none⟩)])) 91⟩, ⟨e, .cells (av 12 (ls [.pointer (some ⟨wd, 0, none⟩), .func (.func 49) #[] #[.pointer (some ⟨md, 0, none⟩)], .int .u64 ((x.rc : Nat) : Int), .int .u64 ((x.ct : Nat) : Int), .int .u64 ((x.rk : Nat) : Int), .int .u64 ((x.lf : Nat) : Int), .int .i64 ((x.sz : Nat) : Int), .string x.sd, .string x.rv, .bool (x.fi), .bool (x.su), .int .u64 ((x.nx : Nat) : Int)])) 89⟩, ⟨wd, .cells (av 3 (ls [.int .u64 ((x.sz : Nat) : Int), .int .u64 (h : Int), .slice (some ⟨k, 0, none⟩) (nW x.sz) (nW x.sz)])) 121⟩, ⟨k, .cells (av (nW x.sz) (w64 m)) 24⟩, ⟨md, .cells (av 1 (ls [.int .u64 ((x.mt : Nat) : Int)])) 24⟩]) : Calls Tryz.prog 28 #[.pointer (some ⟨p, 0, none⟩)] w fun r w' => r = .returned (.tuple #[]) ∧ OkT w w' (tB x p e wd k md h m) (tB x.wX p e wd k md h m) := by
 go_enter Tryz.func28, Tryz.ntmps28
 have M : Mem ⟨w, [p, e, wd, k, md]⟩ [⟨p, .cells (av 1 (ls [.pointer (some ⟨e, 0, none⟩)])) 91⟩, ⟨e, .cells (av 12 (ls [.pointer (some ⟨wd, 0, none⟩), .func (.func 49) #[] #[.pointer (some ⟨md, 0, none⟩)], .int .u64 ((x.rc : Nat) : Int), .int .u64 ((x.ct : Nat) : Int), .int .u64 ((x.rk : Nat) : Int), .int .u64 ((x.lf : Nat) : Int), .int .i64 ((x.sz : Nat) : Int), .string x.sd, .string x.rv, .bool (x.fi), .bool (x.su), .int .u64 ((x.nx : Nat) : Int)])) 89⟩, ⟨wd, .cells (av 3 (ls [.int .u64 ((x.sz : Nat) : Int), .int .u64 (h : Int), .slice (some ⟨k, 0, none⟩) (nW x.sz) (nW x.sz)])) 121⟩, ⟨k, .cells (av (nW x.sz) (w64 m)) 24⟩, ⟨md, .cells (av 1 (ls [.int .u64 ((x.mt : Nat) : Int)])) 24⟩] w := Mem.startT hL hT
 refine sR <| rV 1 <| pC M 3 30 #[.pointer (some ⟨p, 0, none⟩)] (.bool true) (fun w M => c_there w M.laid (M.there (.cons_cons _ (List.nil_sublist _)))) fun u1 M => nT <| cT <| rg_lit <| rV 3 <| ZE M 7 0 0 <| pl_callp M (want_no rfl) (some 8) rfl 52 #[.pointer (some ⟨e, 0, none⟩)] (.tuple #[]) 1 e (.cells (av 12 (ls [.pointer (some ⟨wd, 0, none⟩), .func (.func 49) #[] #[.pointer (some ⟨md, 0, none⟩)], .int .u64 ((x.rc : Nat) : Int), .int .u64 ((x.ct : Nat) : Int), .int .u64 ((x.rk : Nat) : Int), .int .u64 ((x.lf : Nat) : Int), .int .i64 ((x.sz : Nat) : Int), .string x.sd, .string x.rv, .bool (x.fi), .bool (x.su), .int .u64 ((x.nx : Nat) : Int)])) 89) (.cells (av 12 (ls [.pointer (some ⟨wd, 0, none⟩), .func (.func 49) #[] #[.pointer (some ⟨md, 0, none⟩)], .int .u64 ((x.rc : Nat) : Int), .int .u64 ((x.ct : Nat) : Int), .int .u64 ((x.rk : Nat) : Int), .int .u64 ((x.lf : Nat) : Int), .int .i64 ((x.sz : Nat) : Int), .string ⟨#[]⟩, .string ⟨#[]⟩, .bool (x.fi), .bool (x.su), .int .u64 ((x.nx : Nat) : Int)])) 89) rfl (fun _ => by kernel_rfl) (fun w M => c_wipeE w M.laid (M.there (.cons _ (.cons_cons _ (List.nil_sublist _))))) fun u2 M => ?_
 replace M : Mem ⟨w, [p, e, wd, k, md]⟩ [⟨p, .cells (av 1 (ls [.pointer (some ⟨e, 0, none⟩)])) 91⟩, ⟨e, .cells (av 12 (ls [.pointer (some ⟨wd, 0, none⟩), .func (.func 49) #[] #[.pointer (some ⟨md, 0, none⟩)], .int .u64 ((x.rc : Nat) : Int), .int .u64 ((x.ct : Nat) : Int), .int .u64 ((x.rk : Nat) : Int), .int .u64 ((x.lf : Nat) : Int), .int .i64 ((x.sz : Nat) : Int), .string ⟨#[]⟩, .string ⟨#[]⟩, .bool (x.fi), .bool (x.su), .int .u64 ((x.nx : Nat) : Int)])) 89⟩, ⟨wd, .cells (av 3 (ls [.int .u64 ((x.sz : Nat) : Int), .int .u64 (h : Int), .slice (some ⟨k, 0, none⟩) (nW x.sz) (nW x.sz)])) 121⟩, ⟨k, .cells (av (nW x.sz) (w64 m)) 24⟩, ⟨md, .cells (av 1 (ls [.int .u64 ((x.mt : Nat) : Int)])) 24⟩] u2 := M
 refine pl_nil ?_
 exact bodyPost_end (v := .tuple #[]) (results_none Tryz.results28 _ _) (by kernel_rfl) ⟨rfl, M.okT0⟩
open Go.RowKit
theorem a_Over {p : Nat} {x : TS} {T : List Blk} {n : Nat} (hI : IsT p x T) (hn : n < 18446744073709551616) (w : World) (hL : Laid w) (hT : There w T) : Cs 10 #[.pointer (some ⟨p, 0, none⟩), .int .u64 (n : Int)] w (.bool (x.ov n)) := by
 obtain ⟨e, wd, k, md, h, m, rfl, I, hh⟩ := hI.out
 exact c_TOver hn w hL hT
theorem a_Wants {p : Nat} {x : TS} {T : List Blk} {n : Nat} (hI : IsT p x T) (hn : n < 18446744073709551616) (w : World) (hL : Laid w) (hT : There w T) : Cs 12 #[.pointer (some ⟨p, 0, none⟩), .int .u64 (n : Int)] w (.bool (x.wn n)) := by
 obtain ⟨e, wd, k, md, h, m, rfl, I, hh⟩ := hI.out
 exact c_TWants hn w hL hT
theorem a_Sure {p : Nat} {x : TS} {T : List Blk} (hI : IsT p x T) (w : World) (hL : Laid w) (hT : There w T) : Cs 14 #[.pointer (some ⟨p, 0, none⟩)] w (.bool x.su) := by
 obtain ⟨e, wd, k, md, h, m, rfl, I, hh⟩ := hI.out
 exact c_TSure w hL hT
theorem a_Sent {p : Nat} {x : TS} {T : List Blk} (hI : IsT p x T) (w : World) (hL : Laid w) (hT : There w T) : Cs 15 #[.pointer (some ⟨p, 0, none⟩)] w (.int .u64 ((x.nx : Nat) : Int)) := by
 obtain ⟨e, wd, k, md, h, m, rfl, I, hh⟩ := hI.out
 exact c_TSent w hL hT
theorem sX_same (x : TS) (n : Nat) (s : Yb) : (x.sX n s).sz = x.sz ∧ (x.sX n s).q = x.q ∧ (x.sX n s).ct = x.ct := by
 unfold TS.sX
 split <;> exact ⟨rfl, rfl, rfl⟩
theorem sF_zero {x : TS} {n : Nat} (h : x.sF n = 0) : x.ov n = false ∧ x.nx < x.ct ∧ x.su = true := by
 unfold TS.sF slF at h
 unfold TS.ov
 cases h1 : ovB x.sd x.lf x.mt n
 ·rw [h1, if_neg (by decide)] at h
  by_cases h2 : x.ct ≤ x.nx
  ·rw [if_pos h2] at h
   cases h
  ·rw [if_neg h2] at h
   cases h3 : x.su
   ·rw [h3] at h
    cases h
   ·exact ⟨rfl, by omega, rfl⟩
 ·rw [h1, if_pos rfl] at h
  cases h
theorem TS.Ok.seal {x : TS} (h : x.Ok) (n : Nat) (s : Yb) : (x.sX n s).Ok := by
 unfold TS.sX
 by_cases h0 : x.sF n = 0
 ·rw [if_pos h0]
  have h3 := (sF_zero h0).2.1
  refine ⟨h.s1, h.s2, h.c, ?_⟩
  show slX x.sd x.nx s ≤ x.ct
  unfold slX
  split <;> omega
 ·rw [if_neg h0]
  exact h
theorem TS.Ok.wipe {x : TS} (h : x.Ok) : x.wX.Ok := ⟨h.s1, h.s2, h.c, h.n⟩
theorem a_Seal {p : Nat} {x : TS} {T : List Blk} {n : Nat} {s : Yb} (hI : IsT p x T) (ok : x.Ok) (hn : n < 18446744073709551616) (w : World) (hL : Laid w) (hT : There w T) : Calls Tryz.prog 21 #[.pointer (some ⟨p, 0, none⟩), .int .u64 (n : Int), .string s] w fun r w' => ∃ T', r = .returned (.tuple #[.int .u64 ((x.sN n s : Nat) : Int), .string (x.sC n s), .int .i64 (x.sE n s)]) ∧ IsT p (x.sX n s) T' ∧ OkT w w' T T' := by
 obtain ⟨e, wd, k, md, h, m, rfl, I, hh⟩ := hI.out
 have hx := ok.n
 have hc := ok.c
 obtain ⟨h1, h2, _⟩ := sX_same x n s
 exact (c_TSeal hn (by omega) w hL hT).mono fun _ _ ⟨he, hk⟩ => ⟨_, he, ⟨e, wd, k, md, h, m, rfl, by rw [h1, h2]; exact I, hh⟩, hk⟩
theorem a_Open {p : Nat} {x : TS} {T : List Blk} {n i : Nat} {c : Yb} (hI : IsT p x T) (ok : x.Ok) (hn : n < 18446744073709551616) (hi : i < 18446744073709551616) (w : World) (hL : Laid w) (hT : There w T) : Calls Tryz.prog 22 #[.pointer (some ⟨p, 0, none⟩), .int .u64 (n : Int), .int .u64 (i : Int), .string c] w fun r w' => ∃ T', r = .returned (.tuple #[.string (x.oC n i c), .int .i64 (x.oE n i c)]) ∧ IsT p (x.oX n i c) T' ∧ OkT w w' T T' := by
 obtain ⟨e, wd, k, md, h, m, rfl, I, hh⟩ := hI.out
 exact (c_TOpen hn hi ok.s1 hh I w hL hT).mono fun _ _ ⟨y, he, ⟨h1, h2⟩, hk⟩ => ⟨_, he, ⟨e, wd, k, md, y.1, y.2, rfl, h1, h2⟩, hk⟩
theorem a_Wipe {p : Nat} {x : TS} {T : List Blk} (hI : IsT p x T) (w : World) (hL : Laid w) (hT : There w T) : Calls Tryz.prog 28 #[.pointer (some ⟨p, 0, none⟩)] w fun r w' => ∃ T', r = .returned (.tuple #[]) ∧ IsT p x.wX T' ∧ OkT w w' T T' := by
 obtain ⟨e, wd, k, md, h, m, rfl, I, hh⟩ := hI.out
 exact (c_TWipe w hL hT).mono fun _ _ ⟨he, hk⟩ => ⟨_, he, ⟨e, wd, k, md, h, m, rfl, I, hh⟩, hk⟩
theorem ne_empty {s : Yb} {n : Nat} (h : s.size = n) (hn : n ≠ 0) : s ≠ ⟨#[]⟩ := fun e => hn (by rw [← h, e]; rfl)
theorem ov_no {x : TS} {n : Nat} (h1 : x.sd.size = 32) (h2 : n - x.mt < x.lf) : x.ov n = false := decide_eq_false (by
 rintro (h | h)
 ·exact ne_empty h1 (by decide) h
 ·omega)
theorem ov_yes {x : TS} {n : Nat} (h2 : x.lf ≤ n - x.mt) : x.ov n = true := decide_eq_true (.inr h2)
theorem sF_ok {x : TS} {n : Nat} (h1 : x.ov n = false) (h3 : x.nx < x.ct) (h4 : x.su = true) : x.sF n = 0 := by
 unfold TS.sF slF
 unfold TS.ov at h1
 rw [h1, if_neg (by decide), if_neg (by omega), if_pos h4]
theorem slZ_ok {sd s : Yb} {nx : Nat} (h : sd.size = 32) (hs : s.size ≤ 65536) : slZ sd nx s = 0 := sf_ok ⟨h, nS_size _⟩ (Nat.zero_le _) (by omega) (Nat.zero_le _)
theorem s_ok {p : Nat} {x : TS} {T : List Blk} {n : Nat} {s : Yb} (hI : IsT p x T) (ok : x.Ok) (hn : n < 18446744073709551616) (h1 : x.sd.size = 32) (h2 : n - x.mt < x.lf) (h3 : x.nx < x.ct) (h4 : x.su = true) (h5 : s.size ≤ 65536) (w : World) (hL : Laid w) (hT : There w T) : Calls Tryz.prog 21 #[.pointer (some ⟨p, 0, none⟩), .int .u64 (n : Int), .string s] w fun r w' => ∃ T', r = .returned (.tuple #[.int .u64 ((x.nx : Nat) : Int), .string (sealS x.sd (nS (x.nx : Int)) ⟨#[]⟩ s), .int .i64 0]) ∧ IsT p { x with nx := x.nx + 1 } T' ∧ OkT w w' T T' := by
 have e0 := sF_ok (ov_no h1 h2) h3 h4
 have e1 := slZ_ok (nx := x.nx) h1 h5
 have h := a_Seal (s := s) hI ok hn w hL hT
 unfold TS.sN TS.sC TS.sE TS.sX slN slC slX at h
 rw [if_pos e0, if_pos e0, if_pos e0, if_pos e0, if_pos e1, if_pos e1, if_pos e1, e1] at h
 exact h
theorem s_no {p : Nat} {x : TS} {T : List Blk} {n : Nat} {s : Yb} (hI : IsT p x T) (ok : x.Ok) (hn : n < 18446744073709551616) (h1 : x.sd.size = 32) (h2 : n - x.mt < x.lf) (h3 : x.nx < x.ct) (h4 : x.su = false) (w : World) (hL : Laid w) (hT : There w T) : Calls Tryz.prog 21 #[.pointer (some ⟨p, 0, none⟩), .int .u64 (n : Int), .string s] w fun r w' => ∃ T', r = .returned (.tuple #[.int .u64 0, .string ⟨#[]⟩, .int .i64 3]) ∧ IsT p x T' ∧ OkT w w' T T' := by
 have e0 : x.sF n = 3 := by
  have h5 := ov_no h1 h2
  unfold TS.ov at h5
  unfold TS.sF slF
  rw [h5, if_neg (by decide), if_neg (by omega), h4]
  rfl
 have e1 : ¬ (3 : Int) = 0 := by decide
 have h := a_Seal (s := s) hI ok hn w hL hT
 unfold TS.sN TS.sC TS.sE TS.sX at h
 rw [e0, if_neg e1, if_neg e1, if_neg e1, if_neg e1] at h
 exact h
theorem oF_ok {x : TS} {n i : Nat} (h1 : x.ov n = false) (h3 : i < x.ct) : x.oF n i = my x.sz x.q i := by
 unfold TS.oF opF
 unfold TS.ov at h1
 rw [h1, if_neg (by decide), if_neg (by omega)]
theorem opZ_seal {rv s : Yb} {i : Nat} (h : rv.size = 32) (hs : s.size ≤ 65536) : opZ rv i (sealS rv (nS (i : Int)) ⟨#[]⟩ s) = 0 := by
 unfold opZ
 rw [if_pos (seal_ok (slZ_ok (nx := i) h hs)), if_pos (seal_tg _ _ _ _)]
theorem mk_yes' {s n : Nat} {l : List Nat} (h : my s l n = 0) : mk s l n = l ++ [n] := by
 unfold mk
 rw [if_pos h]
theorem o_ok {p : Nat} {x : TS} {T : List Blk} {n i : Nat} {s : Yb} (hI : IsT p x T) (ok : x.Ok) (hn : n < 18446744073709551616) (hi : i < 18446744073709551616) (h1 : x.sd.size = 32) (hr : x.rv.size = 32) (h2 : n - x.mt < x.lf) (h3 : i < x.ct) (h4 : my x.sz x.q i = 0) (h5 : s.size ≤ 65536) (w : World) (hL : Laid w) (hT : There w T) : Calls Tryz.prog 22 #[.pointer (some ⟨p, 0, none⟩), .int .u64 (n : Int), .int .u64 (i : Int), .string (sealS x.rv (nS (i : Int)) ⟨#[]⟩ s)] w fun r w' => ∃ T', r = .returned (.tuple #[.string s, .int .i64 0]) ∧ IsT p { x with su := true, q := x.q ++ [i] } T' ∧ OkT w w' T T' := by
 have e0 : x.oF n i = 0 := by rw [oF_ok (ov_no h1 h2) h3, h4]
 have e1 := opZ_seal (i := i) hr h5
 have h := a_Open (i := i) (c := sealS x.rv (nS (i : Int)) ⟨#[]⟩ s) hI ok hn hi w hL hT
 unfold TS.oC TS.oE TS.oX opC opU opQ at h
 rw [if_pos e0, if_pos e0, if_pos e0, if_pos e1, if_pos e1, if_pos e1, e1, seal_op, mk_yes' h4] at h
 exact h
theorem o_no {p : Nat} {x : TS} {T : List Blk} {n i : Nat} {c : Yb} (hI : IsT p x T) (ok : x.Ok) (hn : n < 18446744073709551616) (hi : i < 18446744073709551616) (h1 : x.sd.size = 32) (h2 : n - x.mt < x.lf) (h3 : i < x.ct) (h4 : ¬ my x.sz x.q i = 0) (w : World) (hL : Laid w) (hT : There w T) : Calls Tryz.prog 22 #[.pointer (some ⟨p, 0, none⟩), .int .u64 (n : Int), .int .u64 (i : Int), .string c] w fun r w' => ∃ T', r = .returned (.tuple #[.string ⟨#[]⟩, .int .i64 (my x.sz x.q i)]) ∧ IsT p x T' ∧ OkT w w' T T' := by
 have e0 : x.oF n i = my x.sz x.q i := oF_ok (ov_no h1 h2) h3
 have h := a_Open (i := i) (c := c) hI ok hn hi w hL hT
 unfold TS.oC TS.oE TS.oX at h
 rw [e0, if_neg h4, if_neg h4, if_neg h4] at h
 exact h
open Go.RowKit
theorem results_c3 {P : Program} {fn : Func} {p q r : Tmp} {tp tq tr : TypeId} (h : fn.results = #[.cell p tp, .cell q tq, .cell r tr]) (tmps : Array Value) (w : World) (g1 : Nat) (v : Value) (g2 : Nat) (u : Value) (g3 : Nat) (x : Value) (hp : tmps.getD p undef = .pointer (some ⟨g1, 0, none⟩)) (hq : tmps.getD q undef = .pointer (some ⟨g2, 0, none⟩)) (hr : tmps.getD r undef = .pointer (some ⟨g3, 0, none⟩))
  (a1 : ∀ w, (isAgg tp).run P w = .ok false w) (a2 : ∀ w, (isAgg tq).run P w = .ok false w) (a3 : ∀ w, (isAgg tr).run P w = .ok false w) (c1 : w.cell? ⟨g1, 0, none⟩ = some v) (c2 : w.cell? ⟨g2, 0, none⟩ = some u) (c3 : w.cell? ⟨g3, 0, none⟩ = some x) : (results fn tmps).run P w = .ok (.tuple #[v, u, x]) w := by
 have hp' : tmps[p]?.getD undef = .pointer (some ⟨g1, 0, none⟩) := by simpa using hp
 have hq' : tmps[q]?.getD undef = .pointer (some ⟨g2, 0, none⟩) := by simpa using hq
 have hr' : tmps[r]?.getD undef = .pointer (some ⟨g3, 0, none⟩) := by simpa using hr
 simp [results, h, hp', hq', hr', asAddr, loadVar, a1, a2, a3, c1, c2, c3]
def keyA : ByteArray := (bs [0, 0, 0, 0, 0, 0, 0, 0, 0, 0, 0, 0, 0, 0, 0, 0, 0, 0, 0, 0, 0, 0, 0, 0, 0, 0, 0, 0, 0, 0, 0]) ++ ⟨#[97]⟩
def keyB : ByteArray := (bs [0, 0, 0, 0, 0, 0, 0, 0, 0, 0, 0, 0, 0, 0, 0, 0, 0, 0, 0, 0, 0, 0, 0, 0, 0, 0, 0, 0, 0, 0, 0]) ++ ⟨#[98]⟩
theorem keyA_size : keyA.size = 32 := by decide +kernel
theorem keyB_size : keyB.size = 32 := by decide +kernel
theorem c_gotA  (w : World) (hL : Laid w)  : Cs 20 #[.bool true] w (.agg (av 5 (ls [.string ⟨#[]⟩, .string ⟨#[]⟩, .string keyA, .string keyB, .string ⟨#[]⟩]))) := by
 go_enter Tryz.func20, Tryz.ntmps20
 have M := Mem.start hL
 refine sR <| pN M 2 (.cells (av 5 (ls [.string ⟨#[]⟩, .string ⟨#[]⟩, .string ⟨#[]⟩, .string ⟨#[]⟩, .string ⟨#[]⟩])) 23) fun g1 u1 M => ?_
 replace M : Mem ⟨w, []⟩ [⟨g1, .cells (av 5 (ls [.string ⟨#[]⟩, .string ⟨#[]⟩, .string ⟨#[]⟩, .string ⟨#[]⟩, .string ⟨#[]⟩])) 23⟩] u1 := M
 refine nT <| sR <| ZM M 5 (fun g2 => .slice (some ⟨g2, 0, none⟩) 31 31) (.cells (av 31 (ls [.int .u8 0, .int .u8 0, .int .u8 0, .int .u8 0, .int .u8 0, .int .u8 0, .int .u8 0, .int .u8 0, .int .u8 0, .int .u8 0, .int .u8 0, .int .u8 0, .int .u8 0, .int .u8 0, .int .u8 0, .int .u8 0, .int .u8 0, .int .u8 0, .int .u8 0, .int .u8 0, .int .u8 0, .int .u8 0, .int .u8 0, .int .u8 0, .int .u8 0, .int .u8 0, .int .u8 0, .int .u8 0, .int .u8 0, .int .u8 0, .int .u8 0])) 5) fun g2 u2 M => ?_
 replace M : Mem ⟨w, []⟩ [⟨g1, .cells (av 5 (ls [.string ⟨#[]⟩, .string ⟨#[]⟩, .string ⟨#[]⟩, .string ⟨#[]⟩, .string ⟨#[]⟩])) 23⟩, ⟨g2, .cells (av 31 (ls [.int .u8 0, .int .u8 0, .int .u8 0, .int .u8 0, .int .u8 0, .int .u8 0, .int .u8 0, .int .u8 0, .int .u8 0, .int .u8 0, .int .u8 0, .int .u8 0, .int .u8 0, .int .u8 0, .int .u8 0, .int .u8 0, .int .u8 0, .int .u8 0, .int .u8 0, .int .u8 0, .int .u8 0, .int .u8 0, .int .u8 0, .int .u8 0, .int .u8 0, .int .u8 0, .int .u8 0, .int .u8 0, .int .u8 0, .int .u8 0, .int .u8 0])) 5⟩] u2 := M
 refine pl_back M (want_no rfl) (some 6) rfl _ rfl 1 g2 31 31 (by kernel_rfl) _ rfl [0, 0, 0, 0, 0, 0, 0, 0, 0, 0, 0, 0, 0, 0, 0, 0, 0, 0, 0, 0, 0, 0, 0, 0, 0, 0, 0, 0, 0, 0, 0] 31 (sb_ls [0, 0, 0, 0, 0, 0, 0, 0, 0, 0, 0, 0, 0, 0, 0, 0, 0, 0, 0, 0, 0, 0, 0, 0, 0, 0, 0, 0, 0, 0, 0] _) rfl (by decide) <| pH 7 (.string ((bs [0, 0, 0, 0, 0, 0, 0, 0, 0, 0, 0, 0, 0, 0, 0, 0, 0, 0, 0, 0, 0, 0, 0, 0, 0, 0, 0, 0, 0, 0, 0]) ++ (⟨#[97]⟩ : Yb))) (run_cat 9 9 _ _ rfl (bs [0, 0, 0, 0, 0, 0, 0, 0, 0, 0, 0, 0, 0, 0, 0, 0, 0, 0, 0, 0, 0, 0, 0, 0, 0, 0, 0, 0, 0, 0, 0]) ⟨#[97]⟩ (by kernel_rfl) (by kernel_rfl) (by decide +kernel)) <| rV 1 <| nT <| sR <| ZM M 8 (fun g3 => .slice (some ⟨g3, 0, none⟩) 31 31) (.cells (av 31 (ls [.int .u8 0, .int .u8 0, .int .u8 0, .int .u8 0, .int .u8 0, .int .u8 0, .int .u8 0, .int .u8 0, .int .u8 0, .int .u8 0, .int .u8 0, .int .u8 0, .int .u8 0, .int .u8 0, .int .u8 0, .int .u8 0, .int .u8 0, .int .u8 0, .int .u8 0, .int .u8 0, .int .u8 0, .int .u8 0, .int .u8 0, .int .u8 0, .int .u8 0, .int .u8 0, .int .u8 0, .int .u8 0, .int .u8 0, .int .u8 0, .int .u8 0])) 5) fun g3 u3 M => ?_
 replace M : Mem ⟨w, []⟩ [⟨g1, .cells (av 5 (ls [.string ⟨#[]⟩, .string ⟨#[]⟩, .string ⟨#[]⟩, .string ⟨#[]⟩, .string ⟨#[]⟩])) 23⟩, ⟨g2, .cells (av 31 (ls [.int .u8 0, .int .u8 0, .int .u8 0, .int .u8 0, .int .u8 0, .int .u8 0, .int .u8 0, .int .u8 0, .int .u8 0, .int .u8 0, .int .u8 0, .int .u8 0, .int .u8 0, .int .u8 0, .int .u8 0, .int .u8 0, .int .u8 0, .int .u8 0, .int .u8 0, .int .u8 0, .int .u8 0, .int .u8 0, .int .u8 0, .int .u8 0, .int .u8 0, .int .u8 0, .int .u8 0, .int .u8 0, .int .u8 0, .int .u8 0, .int .u8 0])) 5⟩, ⟨g3, .cells (av 31 (ls [.int .u8 0, .int .u8 0, .int .u8 0, .int .u8 0, .int .u8 0, .int .u8 0, .int .u8 0, .int .u8 0, .int .u8 0, .int .u8 0, .int .u8 0, .int .u8 0, .int .u8 0, .int .u8 0, .int .u8 0, .int .u8 0, .int .u8 0, .int .u8 0, .int .u8 0, .int .u8 0, .int .u8 0, .int .u8 0, .int .u8 0, .int .u8 0, .int .u8 0, .int .u8 0, .int .u8 0, .int .u8 0, .int .u8 0, .int .u8 0, .int .u8 0])) 5⟩] u3 := M
 refine pl_back M (want_no rfl) (some 9) rfl _ rfl 2 g3 31 31 (by kernel_rfl) _ rfl [0, 0, 0, 0, 0, 0, 0, 0, 0, 0, 0, 0, 0, 0, 0, 0, 0, 0, 0, 0, 0, 0, 0, 0, 0, 0, 0, 0, 0, 0, 0] 31 (sb_ls [0, 0, 0, 0, 0, 0, 0, 0, 0, 0, 0, 0, 0, 0, 0, 0, 0, 0, 0, 0, 0, 0, 0, 0, 0, 0, 0, 0, 0, 0, 0] _) rfl (by decide) <| pH 10 (.string ((bs [0, 0, 0, 0, 0, 0, 0, 0, 0, 0, 0, 0, 0, 0, 0, 0, 0, 0, 0, 0, 0, 0, 0, 0, 0, 0, 0, 0, 0, 0, 0]) ++ (⟨#[98]⟩ : Yb))) (run_cat 9 9 _ _ rfl (bs [0, 0, 0, 0, 0, 0, 0, 0, 0, 0, 0, 0, 0, 0, 0, 0, 0, 0, 0, 0, 0, 0, 0, 0, 0, 0, 0, 0, 0, 0, 0]) ⟨#[98]⟩ (by kernel_rfl) (by kernel_rfl) (by decide +kernel)) <| rV 1 <| nT <| wp_seq <| sq <| cT <| sR <| rV 3 <| pl_put M (want_no rfl) rfl 23 _ _ rfl 0 g1 0 (by kernel_rfl) 5 23 (ls [.string ⟨#[]⟩, .string ⟨#[]⟩, .string ⟨#[]⟩, .string ⟨#[]⟩, .string ⟨#[]⟩]) rfl 5 (ls [.string ⟨#[]⟩, .string ⟨#[]⟩, .string ((bs [0, 0, 0, 0, 0, 0, 0, 0, 0, 0, 0, 0, 0, 0, 0, 0, 0, 0, 0, 0, 0, 0, 0, 0, 0, 0, 0, 0, 0, 0, 0]) ++ (⟨#[97]⟩ : Yb)), .string ((bs [0, 0, 0, 0, 0, 0, 0, 0, 0, 0, 0, 0, 0, 0, 0, 0, 0, 0, 0, 0, 0, 0, 0, 0, 0, 0, 0, 0, 0, 0, 0]) ++ (⟨#[98]⟩ : Yb)), .string ⟨#[]⟩]) (ls [.string ⟨#[]⟩, .string ⟨#[]⟩, .string ((bs [0, 0, 0, 0, 0, 0, 0, 0, 0, 0, 0, 0, 0, 0, 0, 0, 0, 0, 0, 0, 0, 0, 0, 0, 0, 0, 0, 0, 0, 0, 0]) ++ (⟨#[97]⟩ : Yb)), .string ((bs [0, 0, 0, 0, 0, 0, 0, 0, 0, 0, 0, 0, 0, 0, 0, 0, 0, 0, 0, 0, 0, 0, 0, 0, 0, 0, 0, 0, 0, 0, 0]) ++ (⟨#[98]⟩ : Yb)), .string ⟨#[]⟩]) (by kernel_rfl) inz23 (by decide) (one_ls _ rfl) (fun j hj => by rw [if_pos (by omega), Nat.sub_zero]) fun u4 M => ?_
 replace M : Mem ⟨w, []⟩ [⟨g1, .cells (av 5 (ls [.string ⟨#[]⟩, .string ⟨#[]⟩, .string ((bs [0, 0, 0, 0, 0, 0, 0, 0, 0, 0, 0, 0, 0, 0, 0, 0, 0, 0, 0, 0, 0, 0, 0, 0, 0, 0, 0, 0, 0, 0, 0]) ++ (⟨#[97]⟩ : Yb)), .string ((bs [0, 0, 0, 0, 0, 0, 0, 0, 0, 0, 0, 0, 0, 0, 0, 0, 0, 0, 0, 0, 0, 0, 0, 0, 0, 0, 0, 0, 0, 0, 0]) ++ (⟨#[98]⟩ : Yb)), .string ⟨#[]⟩])) 23⟩, ⟨g2, .cells (av 31 (ls [.int .u8 0, .int .u8 0, .int .u8 0, .int .u8 0, .int .u8 0, .int .u8 0, .int .u8 0, .int .u8 0, .int .u8 0, .int .u8 0, .int .u8 0, .int .u8 0, .int .u8 0, .int .u8 0, .int .u8 0, .int .u8 0, .int .u8 0, .int .u8 0, .int .u8 0, .int .u8 0, .int .u8 0, .int .u8 0, .int .u8 0, .int .u8 0, .int .u8 0, .int .u8 0, .int .u8 0, .int .u8 0, .int .u8 0, .int .u8 0, .int .u8 0])) 5⟩, ⟨g3, .cells (av 31 (ls [.int .u8 0, .int .u8 0, .int .u8 0, .int .u8 0, .int .u8 0, .int .u8 0, .int .u8 0, .int .u8 0, .int .u8 0, .int .u8 0, .int .u8 0, .int .u8 0, .int .u8 0, .int .u8 0, .int .u8 0, .int .u8 0, .int .u8 0, .int .u8 0, .int .u8 0, .int .u8 0, .int .u8 0, .int .u8 0, .int .u8 0, .int .u8 0, .int .u8 0, .int .u8 0, .int .u8 0, .int .u8 0, .int .u8 0, .int .u8 0, .int .u8 0])) 5⟩] u4 := M
 refine nT <| wp_ret <| au_then_ret ?_
 have e0 : keyA = ((bs [0, 0, 0, 0, 0, 0, 0, 0, 0, 0, 0, 0, 0, 0, 0, 0, 0, 0, 0, 0, 0, 0, 0, 0, 0, 0, 0, 0, 0, 0, 0]) ++ (⟨#[97]⟩ : Yb)) := rfl
 have e1 : keyB = ((bs [0, 0, 0, 0, 0, 0, 0, 0, 0, 0, 0, 0, 0, 0, 0, 0, 0, 0, 0, 0, 0, 0, 0, 0, 0, 0, 0, 0, 0, 0, 0]) ++ (⟨#[98]⟩ : Yb)) := rfl
 exact bodyPost_ret (v := .agg (av 5 (ls [.string ⟨#[]⟩, .string ⟨#[]⟩, .string ((bs [0, 0, 0, 0, 0, 0, 0, 0, 0, 0, 0, 0, 0, 0, 0, 0, 0, 0, 0, 0, 0, 0, 0, 0, 0, 0, 0, 0, 0, 0, 0]) ++ (⟨#[97]⟩ : Yb)), .string ((bs [0, 0, 0, 0, 0, 0, 0, 0, 0, 0, 0, 0, 0, 0, 0, 0, 0, 0, 0, 0, 0, 0, 0, 0, 0, 0, 0, 0, 0, 0, 0]) ++ (⟨#[98]⟩ : Yb)), .string ⟨#[]⟩]))) (results_cell_row Tryz.results20 _ _ g1 23 (av 5 (ls [.string ⟨#[]⟩, .string ⟨#[]⟩, .string ((bs [0, 0, 0, 0, 0, 0, 0, 0, 0, 0, 0, 0, 0, 0, 0, 0, 0, 0, 0, 0, 0, 0, 0, 0, 0, 0, 0, 0, 0, 0, 0]) ++ (⟨#[97]⟩ : Yb)), .string ((bs [0, 0, 0, 0, 0, 0, 0, 0, 0, 0, 0, 0, 0, 0, 0, 0, 0, 0, 0, 0, 0, 0, 0, 0, 0, 0, 0, 0, 0, 0, 0]) ++ (⟨#[98]⟩ : Yb)), .string ⟨#[]⟩])) (0, 0) _ (by kernel_rfl) (M.get 0 rfl) Tryz.underlying23 rfl (by rw [av_size]; exact inz23)) (by kernel_rfl) ⟨by rw [e0, e1], below_grown M.old⟩
theorem c_gotB  (w : World) (hL : Laid w)  : Cs 20 #[.bool false] w (.agg (av 5 (ls [.string ⟨#[]⟩, .string ⟨#[]⟩, .string keyB, .string keyA, .string ⟨#[]⟩]))) := by
 go_enter Tryz.func20, Tryz.ntmps20
 have M := Mem.start hL
 refine sR <| pN M 2 (.cells (av 5 (ls [.string ⟨#[]⟩, .string ⟨#[]⟩, .string ⟨#[]⟩, .string ⟨#[]⟩, .string ⟨#[]⟩])) 23) fun g1 u1 M => ?_
 replace M : Mem ⟨w, []⟩ [⟨g1, .cells (av 5 (ls [.string ⟨#[]⟩, .string ⟨#[]⟩, .string ⟨#[]⟩, .string ⟨#[]⟩, .string ⟨#[]⟩])) 23⟩] u1 := M
 refine nT <| sR <| ZM M 5 (fun g2 => .slice (some ⟨g2, 0, none⟩) 31 31) (.cells (av 31 (ls [.int .u8 0, .int .u8 0, .int .u8 0, .int .u8 0, .int .u8 0, .int .u8 0, .int .u8 0, .int .u8 0, .int .u8 0, .int .u8 0, .int .u8 0, .int .u8 0, .int .u8 0, .int .u8 0, .int .u8 0, .int .u8 0, .int .u8 0, .int .u8 0, .int .u8 0, .int .u8 0, .int .u8 0, .int .u8 0, .int .u8 0, .int .u8 0, .int .u8 0, .int .u8 0, .int .u8 0, .int .u8 0, .int .u8 0, .int .u8 0, .int .u8 0])) 5) fun g2 u2 M => ?_
 replace M : Mem ⟨w, []⟩ [⟨g1, .cells (av 5 (ls [.string ⟨#[]⟩, .string ⟨#[]⟩, .string ⟨#[]⟩, .string ⟨#[]⟩, .string ⟨#[]⟩])) 23⟩, ⟨g2, .cells (av 31 (ls [.int .u8 0, .int .u8 0, .int .u8 0, .int .u8 0, .int .u8 0, .int .u8 0, .int .u8 0, .int .u8 0, .int .u8 0, .int .u8 0, .int .u8 0, .int .u8 0, .int .u8 0, .int .u8 0, .int .u8 0, .int .u8 0, .int .u8 0, .int .u8 0, .int .u8 0, .int .u8 0, .int .u8 0, .int .u8 0, .int .u8 0, .int .u8 0, .int .u8 0, .int .u8 0, .int .u8 0, .int .u8 0, .int .u8 0, .int .u8 0, .int .u8 0])) 5⟩] u2 := M
 refine pl_back M (want_no rfl) (some 6) rfl _ rfl 1 g2 31 31 (by kernel_rfl) _ rfl [0, 0, 0, 0, 0, 0, 0, 0, 0, 0, 0, 0, 0, 0, 0, 0, 0, 0, 0, 0, 0, 0, 0, 0, 0, 0, 0, 0, 0, 0, 0] 31 (sb_ls [0, 0, 0, 0, 0, 0, 0, 0, 0, 0, 0, 0, 0, 0, 0, 0, 0, 0, 0, 0, 0, 0, 0, 0, 0, 0, 0, 0, 0, 0, 0] _) rfl (by decide) <| pH 7 (.string ((bs [0, 0, 0, 0, 0, 0, 0, 0, 0, 0, 0, 0, 0, 0, 0, 0, 0, 0, 0, 0, 0, 0, 0, 0, 0, 0, 0, 0, 0, 0, 0]) ++ (⟨#[97]⟩ : Yb))) (run_cat 9 9 _ _ rfl (bs [0, 0, 0, 0, 0, 0, 0, 0, 0, 0, 0, 0, 0, 0, 0, 0, 0, 0, 0, 0, 0, 0, 0, 0, 0, 0, 0, 0, 0, 0, 0]) ⟨#[97]⟩ (by kernel_rfl) (by kernel_rfl) (by decide +kernel)) <| rV 1 <| nT <| sR <| ZM M 8 (fun g3 => .slice (some ⟨g3, 0, none⟩) 31 31) (.cells (av 31 (ls [.int .u8 0, .int .u8 0, .int .u8 0, .int .u8 0, .int .u8 0, .int .u8 0, .int .u8 0, .int .u8 0, .int .u8 0, .int .u8 0, .int .u8 0, .int .u8 0, .int .u8 0, .int .u8 0, .int .u8 0, .int .u8 0, .int .u8 0, .int .u8 0, .int .u8 0, .int .u8 0, .int .u8 0, .int .u8 0, .int .u8 0, .int .u8 0, .int .u8 0, .int .u8 0, .int .u8 0, .int .u8 0, .int .u8 0, .int .u8 0, .int .u8 0])) 5) fun g3 u3 M => ?_
 replace M : Mem ⟨w, []⟩ [⟨g1, .cells (av 5 (ls [.string ⟨#[]⟩, .string ⟨#[]⟩, .string ⟨#[]⟩, .string ⟨#[]⟩, .string ⟨#[]⟩])) 23⟩, ⟨g2, .cells (av 31 (ls [.int .u8 0, .int .u8 0, .int .u8 0, .int .u8 0, .int .u8 0, .int .u8 0, .int .u8 0, .int .u8 0, .int .u8 0, .int .u8 0, .int .u8 0, .int .u8 0, .int .u8 0, .int .u8 0, .int .u8 0, .int .u8 0, .int .u8 0, .int .u8 0, .int .u8 0, .int .u8 0, .int .u8 0, .int .u8 0, .int .u8 0, .int .u8 0, .int .u8 0, .int .u8 0, .int .u8 0, .int .u8 0, .int .u8 0, .int .u8 0, .int .u8 0])) 5⟩, ⟨g3, .cells (av 31 (ls [.int .u8 0, .int .u8 0, .int .u8 0, .int .u8 0, .int .u8 0, .int .u8 0, .int .u8 0, .int .u8 0, .int .u8 0, .int .u8 0, .int .u8 0, .int .u8 0, .int .u8 0, .int .u8 0, .int .u8 0, .int .u8 0, .int .u8 0, .int .u8 0, .int .u8 0, .int .u8 0, .int .u8 0, .int .u8 0, .int .u8 0, .int .u8 0, .int .u8 0, .int .u8 0, .int .u8 0, .int .u8 0, .int .u8 0, .int .u8 0, .int .u8 0])) 5⟩] u3 := M
 refine pl_back M (want_no rfl) (some 9) rfl _ rfl 2 g3 31 31 (by kernel_rfl) _ rfl [0, 0, 0, 0, 0, 0, 0, 0, 0, 0, 0, 0, 0, 0, 0, 0, 0, 0, 0, 0, 0, 0, 0, 0, 0, 0, 0, 0, 0, 0, 0] 31 (sb_ls [0, 0, 0, 0, 0, 0, 0, 0, 0, 0, 0, 0, 0, 0, 0, 0, 0, 0, 0, 0, 0, 0, 0, 0, 0, 0, 0, 0, 0, 0, 0] _) rfl (by decide) <| pH 10 (.string ((bs [0, 0, 0, 0, 0, 0, 0, 0, 0, 0, 0, 0, 0, 0, 0, 0, 0, 0, 0, 0, 0, 0, 0, 0, 0, 0, 0, 0, 0, 0, 0]) ++ (⟨#[98]⟩ : Yb))) (run_cat 9 9 _ _ rfl (bs [0, 0, 0, 0, 0, 0, 0, 0, 0, 0, 0, 0, 0, 0, 0, 0, 0, 0, 0, 0, 0, 0, 0, 0, 0, 0, 0, 0, 0, 0, 0]) ⟨#[98]⟩ (by kernel_rfl) (by kernel_rfl) (by decide +kernel)) <| rV 1 <| nT <| wp_seq <| sq <| cF <| wp_skip <| au_then <| sR <| rV 3 <| pl_put M (want_no rfl) rfl 23 _ _ rfl 0 g1 0 (by kernel_rfl) 5 23 (ls [.string ⟨#[]⟩, .string ⟨#[]⟩, .string ⟨#[]⟩, .string ⟨#[]⟩, .string ⟨#[]⟩]) rfl 5 (ls [.string ⟨#[]⟩, .string ⟨#[]⟩, .string ((bs [0, 0, 0, 0, 0, 0, 0, 0, 0, 0, 0, 0, 0, 0, 0, 0, 0, 0, 0, 0, 0, 0, 0, 0, 0, 0, 0, 0, 0, 0, 0]) ++ (⟨#[98]⟩ : Yb)), .string ((bs [0, 0, 0, 0, 0, 0, 0, 0, 0, 0, 0, 0, 0, 0, 0, 0, 0, 0, 0, 0, 0, 0, 0, 0, 0, 0, 0, 0, 0, 0, 0]) ++ (⟨#[97]⟩ : Yb)), .string ⟨#[]⟩]) (ls [.string ⟨#[]⟩, .string ⟨#[]⟩, .string ((bs [0, 0, 0, 0, 0, 0, 0, 0, 0, 0, 0, 0, 0, 0, 0, 0, 0, 0, 0, 0, 0, 0, 0, 0, 0, 0, 0, 0, 0, 0, 0]) ++ (⟨#[98]⟩ : Yb)), .string ((bs [0, 0, 0, 0, 0, 0, 0, 0, 0, 0, 0, 0, 0, 0, 0, 0, 0, 0, 0, 0, 0, 0, 0, 0, 0, 0, 0, 0, 0, 0, 0]) ++ (⟨#[97]⟩ : Yb)), .string ⟨#[]⟩]) (by kernel_rfl) inz23 (by decide) (one_ls _ rfl) (fun j hj => by rw [if_pos (by omega), Nat.sub_zero]) fun u4 M => ?_
 replace M : Mem ⟨w, []⟩ [⟨g1, .cells (av 5 (ls [.string ⟨#[]⟩, .string ⟨#[]⟩, .string ((bs [0, 0, 0, 0, 0, 0, 0, 0, 0, 0, 0, 0, 0, 0, 0, 0, 0, 0, 0, 0, 0, 0, 0, 0, 0, 0, 0, 0, 0, 0, 0]) ++ (⟨#[98]⟩ : Yb)), .string ((bs [0, 0, 0, 0, 0, 0, 0, 0, 0, 0, 0, 0, 0, 0, 0, 0, 0, 0, 0, 0, 0, 0, 0, 0, 0, 0, 0, 0, 0, 0, 0]) ++ (⟨#[97]⟩ : Yb)), .string ⟨#[]⟩])) 23⟩, ⟨g2, .cells (av 31 (ls [.int .u8 0, .int .u8 0, .int .u8 0, .int .u8 0, .int .u8 0, .int .u8 0, .int .u8 0, .int .u8 0, .int .u8 0, .int .u8 0, .int .u8 0, .int .u8 0, .int .u8 0, .int .u8 0, .int .u8 0, .int .u8 0, .int .u8 0, .int .u8 0, .int .u8 0, .int .u8 0, .int .u8 0, .int .u8 0, .int .u8 0, .int .u8 0, .int .u8 0, .int .u8 0, .int .u8 0, .int .u8 0, .int .u8 0, .int .u8 0, .int .u8 0])) 5⟩, ⟨g3, .cells (av 31 (ls [.int .u8 0, .int .u8 0, .int .u8 0, .int .u8 0, .int .u8 0, .int .u8 0, .int .u8 0, .int .u8 0, .int .u8 0, .int .u8 0, .int .u8 0, .int .u8 0, .int .u8 0, .int .u8 0, .int .u8 0, .int .u8 0, .int .u8 0, .int .u8 0, .int .u8 0, .int .u8 0, .int .u8 0, .int .u8 0, .int .u8 0, .int .u8 0, .int .u8 0, .int .u8 0, .int .u8 0, .int .u8 0, .int .u8 0, .int .u8 0, .int .u8 0])) 5⟩] u4 := M
 refine nT <| wp_ret ?_
 have e0 : keyB = ((bs [0, 0, 0, 0, 0, 0, 0, 0, 0, 0, 0, 0, 0, 0, 0, 0, 0, 0, 0, 0, 0, 0, 0, 0, 0, 0, 0, 0, 0, 0, 0]) ++ (⟨#[98]⟩ : Yb)) := rfl
 have e1 : keyA = ((bs [0, 0, 0, 0, 0, 0, 0, 0, 0, 0, 0, 0, 0, 0, 0, 0, 0, 0, 0, 0, 0, 0, 0, 0, 0, 0, 0, 0, 0, 0, 0]) ++ (⟨#[97]⟩ : Yb)) := rfl
 exact bodyPost_ret (v := .agg (av 5 (ls [.string ⟨#[]⟩, .string ⟨#[]⟩, .string ((bs [0, 0, 0, 0, 0, 0, 0, 0, 0, 0, 0, 0, 0, 0, 0, 0, 0, 0, 0, 0, 0, 0, 0, 0, 0, 0, 0, 0, 0, 0, 0]) ++ (⟨#[98]⟩ : Yb)), .string ((bs [0, 0, 0, 0, 0, 0, 0, 0, 0, 0, 0, 0, 0, 0, 0, 0, 0, 0, 0, 0, 0, 0, 0, 0, 0, 0, 0, 0, 0, 0, 0]) ++ (⟨#[97]⟩ : Yb)), .string ⟨#[]⟩]))) (results_cell_row Tryz.results20 _ _ g1 23 (av 5 (ls [.string ⟨#[]⟩, .string ⟨#[]⟩, .string ((bs [0, 0, 0, 0, 0, 0, 0, 0, 0, 0, 0, 0, 0, 0, 0, 0, 0, 0, 0, 0, 0, 0, 0, 0, 0, 0, 0, 0, 0, 0, 0]) ++ (⟨#[98]⟩ : Yb)), .string ((bs [0, 0, 0, 0, 0, 0, 0, 0, 0, 0, 0, 0, 0, 0, 0, 0, 0, 0, 0, 0, 0, 0, 0, 0, 0, 0, 0, 0, 0, 0, 0]) ++ (⟨#[97]⟩ : Yb)), .string ⟨#[]⟩])) (0, 0) _ (by kernel_rfl) (M.get 0 rfl) Tryz.underlying23 rfl (by rw [av_size]; exact inz23)) (by kernel_rfl) ⟨by rw [e0, e1], below_grown M.old⟩
theorem c_alive  (w : World) (hL : Laid w)  : Cs 6 #[] w (.bool true) := by
 go_enter Tryz.func6, Tryz.ntmps6
 have M := Mem.start hL
 refine sq <| sR <| rV 1 <| pN M 1 (.cells (av 5 (ls [.int .u64 0, .int .u64 0, .int .u64 0, .int .u64 0, .int .i64 0])) 26) fun g1 u1 M => ?_
 replace M : Mem ⟨w, []⟩ [⟨g1, .cells (av 5 (ls [.int .u64 0, .int .u64 0, .int .u64 0, .int .u64 0, .int .i64 0])) 26⟩] u1 := M
 refine pl_put M (want_no rfl) rfl 26 _ _ rfl 0 g1 0 (by kernel_rfl) 5 26 (ls [.int .u64 0, .int .u64 0, .int .u64 0, .int .u64 0, .int .i64 0]) rfl 5 (ls [.int .u64 2, .int .u64 3, .int .u64 10, .int .u64 20, .int .i64 8]) (ls [.int .u64 2, .int .u64 3, .int .u64 10, .int .u64 20, .int .i64 8]) (by kernel_rfl) inz26 (by decide) (one_ls _ rfl) (fun j hj => by rw [if_pos (by omega), Nat.sub_zero]) fun u2 M => ?_
 replace M : Mem ⟨w, []⟩ [⟨g1, .cells (av 5 (ls [.int .u64 2, .int .u64 3, .int .u64 10, .int .u64 20, .int .i64 8])) 26⟩] u2 := M
 refine nT <| wp_seq <| rg_held M [⟨g1, .cells (av 5 (ls [.int .u64 2, .int .u64 3, .int .u64 10, .int .u64 20, .int .i64 8])) 26⟩] 7 rfl (by kernel_rfl) (by kernel_rfl) (fun _ _ d _ _ h => by cases d <;> exact h) fun u3 M => ?_
 replace M : Mem ⟨w, []⟩ [⟨g1, .cells (av 5 (ls [.int .u64 2, .int .u64 3, .int .u64 10, .int .u64 20, .int .i64 8])) 26⟩] u3 := M
 refine hl_load M 1 rfl (by decide) (by kernel_rfl) (by kernel_rfl) (want_no rfl) (some 22) rfl 26 _ rfl 0 g1 0 (by kernel_rfl) 5 26 (ls [.int .u64 2, .int .u64 3, .int .u64 10, .int .u64 20, .int .i64 8]) rfl 5 (ls [.int .u64 2, .int .u64 3, .int .u64 10, .int .u64 20, .int .i64 8]) (fun j _ => by rw [Nat.zero_add]) (by decide) _ Tryz.underlying26 rfl inz26 <| hl_one 0 (by decide) (by kernel_rfl) rfl <| ZC M 21 (fun w M => c_gotA w M.laid) fun u4 M => nT ?_
 refine ⟨M, ?_⟩
 refine hl_one 2 (by decide) (by kernel_rfl) rfl <| pl_callM M (want_no rfl) (some 23) rfl 7 #[.agg (av 5 (ls [.string ⟨#[]⟩, .string ⟨#[]⟩, .string keyA, .string keyB, .string ⟨#[]⟩])), .bool true, .int .u64 5, .agg (av 5 (ls [.int .u64 2, .int .u64 3, .int .u64 10, .int .u64 20, .int .i64 8]))] [⟨g1, .cells (av 5 (ls [.int .u64 2, .int .u64 3, .int .u64 10, .int .u64 20, .int .i64 8])) 26⟩] [] [] (by simp only [List.append_assoc, List.cons_append, List.nil_append, List.append_nil]) (fun x : Nat × List Blk => .tuple #[.pointer (some ⟨x.1, 0, none⟩), .int .i64 0]) (fun x : Nat × List Blk => x.2) (fun x : Nat × List Blk => IsT x.1 ⟨2, 3, 10, 20, 8, 0, 5, keyA, keyB, true, true, []⟩ x.2) (fun _ => by kernel_rfl) (fun w hL hT => a_New keyA_size keyB_size (by decide) (by decide) (by decide) w hL) ?_
 rintro ⟨pa, Tpa⟩ u5 Hpa M
 replace M : Mem ⟨w, []⟩ (⟨g1, .cells (av 5 (ls [.int .u64 2, .int .u64 3, .int .u64 10, .int .u64 20, .int .i64 8])) 26⟩ :: Tpa) u5 := by simpa only [List.append_assoc, List.cons_append, List.nil_append, List.append_nil] using M
 refine nT ?_
 refine ⟨(M.drop (.cons_cons _ (List.nil_sublist _))), ?_⟩
 refine qV (M.drop (.cons_cons _ (List.nil_sublist _))) 3 20 (.tuple #[.pointer (some ⟨pa, 0, none⟩), .int .i64 0]) <| qV (M.drop (.cons_cons _ (List.nil_sublist _))) 4 24 (.pointer (some ⟨pa, 0, none⟩)) <| qV (M.drop (.cons_cons _ (List.nil_sublist _))) 5 25 (.int .i64 0) <| qV (M.drop (.cons_cons _ (List.nil_sublist _))) 6 2 (.pointer (some ⟨pa, 0, none⟩)) <| hl_end (by kernel_rfl) (by kernel_rfl) rfl <| rV 1 <| nT <| au_then <| wp_seq <| rg_held M [⟨g1, .cells (av 5 (ls [.int .u64 2, .int .u64 3, .int .u64 10, .int .u64 20, .int .i64 8])) 26⟩] 7 rfl (by kernel_rfl) (by kernel_rfl) (fun _ _ d _ _ h => by cases d <;> exact h) fun u6 M => ?_
 replace M : Mem ⟨w, []⟩ (⟨g1, .cells (av 5 (ls [.int .u64 2, .int .u64 3, .int .u64 10, .int .u64 20, .int .i64 8])) 26⟩ :: Tpa) u6 := M
 refine hl_load (M.drop (.cons_cons _ (List.nil_sublist _))) 1 rfl (by decide) (by kernel_rfl) (by kernel_rfl) (want_no rfl) (some 28) rfl 26 _ rfl 0 g1 0 (by kernel_rfl) 5 26 (ls [.int .u64 2, .int .u64 3, .int .u64 10, .int .u64 20, .int .i64 8]) rfl 5 (ls [.int .u64 2, .int .u64 3, .int .u64 10, .int .u64 20, .int .i64 8]) (fun j _ => by rw [Nat.zero_add]) (by decide) _ Tryz.underlying26 rfl inz26 <| hl_one 0 (by decide) (by kernel_rfl) rfl <| ZC M 27 (fun w M => c_gotB w M.laid) fun u7 M => nT ?_
 refine ⟨(M.drop (.cons_cons _ (List.nil_sublist _))), ?_⟩
 refine hl_one 2 (by decide) (by kernel_rfl) rfl <| pl_callM M (want_no rfl) (some 29) rfl 7 #[.agg (av 5 (ls [.string ⟨#[]⟩, .string ⟨#[]⟩, .string keyB, .string keyA, .string ⟨#[]⟩])), .bool false, .int .u64 5, .agg (av 5 (ls [.int .u64 2, .int .u64 3, .int .u64 10, .int .u64 20, .int .i64 8]))] [⟨g1, .cells (av 5 (ls [.int .u64 2, .int .u64 3, .int .u64 10, .int .u64 20, .int .i64 8])) 26⟩] [] (Tpa) (by simp only [List.append_assoc, List.cons_append, List.nil_append, List.append_nil]) (fun x : Nat × List Blk => .tuple #[.pointer (some ⟨x.1, 0, none⟩), .int .i64 0]) (fun x : Nat × List Blk => x.2) (fun x : Nat × List Blk => IsT x.1 ⟨2, 3, 10, 20, 8, 0, 5, keyB, keyA, false, false, []⟩ x.2) (fun _ => by kernel_rfl) (fun w hL hT => a_New keyB_size keyA_size (by decide) (by decide) (by decide) w hL) ?_
 rintro ⟨pb, Tpb⟩ u8 Hpb M
 replace M : Mem ⟨w, []⟩ (⟨g1, .cells (av 5 (ls [.int .u64 2, .int .u64 3, .int .u64 10, .int .u64 20, .int .i64 8])) 26⟩ :: (Tpb ++ Tpa)) u8 := by simpa only [List.append_assoc, List.cons_append, List.nil_append, List.append_nil] using M
 refine nT ?_
 refine ⟨(M.drop (.cons_cons _ (List.nil_sublist _))), ?_⟩
 refine qV (M.drop (.cons_cons _ (List.nil_sublist _))) 3 26 (.tuple #[.pointer (some ⟨pb, 0, none⟩), .int .i64 0]) <| qV (M.drop (.cons_cons _ (List.nil_sublist _))) 4 30 (.pointer (some ⟨pb, 0, none⟩)) <| qV (M.drop (.cons_cons _ (List.nil_sublist _))) 5 31 (.int .i64 0) <| qV (M.drop (.cons_cons _ (List.nil_sublist _))) 6 4 (.pointer (some ⟨pb, 0, none⟩)) <| hl_end (by kernel_rfl) (by kernel_rfl) rfl <| rV 1 <| nT <| au_then <| wp_seq <| sq <| cF <| wp_skip <| au_then <| sR <| rV 1 <| pl_callM M (want_no rfl) (some 48) rfl 21 #[.pointer (some ⟨pb, 0, none⟩), .int .u64 5, .string ⟨#[120]⟩] [⟨g1, .cells (av 5 (ls [.int .u64 2, .int .u64 3, .int .u64 10, .int .u64 20, .int .i64 8])) 26⟩] (Tpb) (Tpa) (by simp only [List.append_assoc, List.cons_append, List.nil_append, List.append_nil]) (fun T0 => .tuple #[.int .u64 0, .string ⟨#[]⟩, .int .i64 3]) (fun T0 => T0) (fun T0 => IsT pb ⟨2, 3, 10, 20, 8, 0, 5, keyB, keyA, false, false, []⟩ T0) (fun _ => by kernel_rfl) (fun w hL hT => s_no Hpb ⟨by decide, by decide, by decide, by decide⟩ (by decide) keyB_size (by decide) (by decide) rfl w hL hT) ?_
 rintro Y1 u9 J1 M
 replace M : Mem ⟨w, []⟩ (⟨g1, .cells (av 5 (ls [.int .u64 2, .int .u64 3, .int .u64 10, .int .u64 20, .int .i64 8])) 26⟩ :: (Y1 ++ Tpa)) u9 := by simpa only [List.append_assoc, List.cons_append, List.nil_append, List.append_nil] using M
 refine rV 7 <| nT <| sR <| rV 1 <| pl_callM M (want_no rfl) (some 53) rfl 21 #[.pointer (some ⟨pa, 0, none⟩), .int .u64 5, .string ⟨#[111, 110, 101]⟩] (⟨g1, .cells (av 5 (ls [.int .u64 2, .int .u64 3, .int .u64 10, .int .u64 20, .int .i64 8])) 26⟩ :: Y1) (Tpa) [] (by simp only [List.append_assoc, List.cons_append, List.nil_append, List.append_nil]) (fun T0 => .tuple #[.int .u64 0, .string (sealS keyA (nS 0) ⟨#[]⟩ ⟨#[111, 110, 101]⟩), .int .i64 0]) (fun T0 => T0) (fun T0 => IsT pa ⟨2, 3, 10, 20, 8, 1, 5, keyA, keyB, true, true, []⟩ T0) (fun _ => by kernel_rfl) (fun w hL hT => s_ok Hpa ⟨by decide, by decide, by decide, by decide⟩ (by decide) keyA_size (by decide) (by decide) rfl (by decide) w hL hT) ?_
 rintro Y2 u10 J2 M
 replace M : Mem ⟨w, []⟩ (⟨g1, .cells (av 5 (ls [.int .u64 2, .int .u64 3, .int .u64 10, .int .u64 20, .int .i64 8])) 26⟩ :: (Y1 ++ Y2)) u10 := by simpa only [List.append_assoc, List.cons_append, List.nil_append, List.append_nil] using M
 refine nT <| sR <| rV 1 <| pl_callM M (want_no rfl) (some 56) rfl 21 #[.pointer (some ⟨pa, 0, none⟩), .int .u64 5, .string ⟨#[116, 119, 111]⟩] (⟨g1, .cells (av 5 (ls [.int .u64 2, .int .u64 3, .int .u64 10, .int .u64 20, .int .i64 8])) 26⟩ :: Y1) (Y2) [] (by simp only [List.append_assoc, List.cons_append, List.nil_append, List.append_nil]) (fun T0 => .tuple #[.int .u64 1, .string (sealS keyA (nS 1) ⟨#[]⟩ ⟨#[116, 119, 111]⟩), .int .i64 0]) (fun T0 => T0) (fun T0 => IsT pa ⟨2, 3, 10, 20, 8, 2, 5, keyA, keyB, true, true, []⟩ T0) (fun _ => by kernel_rfl) (fun w hL hT => s_ok J2 ⟨by decide, by decide, by decide, by decide⟩ (by decide) keyA_size (by decide) (by decide) rfl (by decide) w hL hT) ?_
 rintro Y3 u11 J3 M
 replace M : Mem ⟨w, []⟩ (⟨g1, .cells (av 5 (ls [.int .u64 2, .int .u64 3, .int .u64 10, .int .u64 20, .int .i64 8])) 26⟩ :: (Y1 ++ Y3)) u11 := by simpa only [List.append_assoc, List.cons_append, List.nil_append, List.append_nil] using M
 refine rV 7 <| nT <| sR <| rV 3 <| pl_callM M (want_no rfl) (some 64) rfl 22 #[.pointer (some ⟨pb, 0, none⟩), .int .u64 5, .int .u64 1, .string (sealS keyA (nS 1) ⟨#[]⟩ ⟨#[116, 119, 111]⟩)] [⟨g1, .cells (av 5 (ls [.int .u64 2, .int .u64 3, .int .u64 10, .int .u64 20, .int .i64 8])) 26⟩] (Y1) (Y3) (by simp only [List.append_assoc, List.cons_append, List.nil_append, List.append_nil]) (fun T0 => .tuple #[.string ⟨#[116, 119, 111]⟩, .int .i64 0]) (fun T0 => T0) (fun T0 => IsT pb ⟨2, 3, 10, 20, 8, 0, 5, keyB, keyA, false, true, [1]⟩ T0) (fun _ => by kernel_rfl) (fun w hL hT => o_ok (s := ⟨#[116, 119, 111]⟩) J1 ⟨by decide, by decide, by decide, by decide⟩ (by decide) (by decide) keyB_size keyA_size (by decide) (by decide) (by decide) (by decide) w hL hT) ?_
 rintro Y4 u12 J4 M
 replace M : Mem ⟨w, []⟩ (⟨g1, .cells (av 5 (ls [.int .u64 2, .int .u64 3, .int .u64 10, .int .u64 20, .int .i64 8])) 26⟩ :: (Y4 ++ Y3)) u12 := by simpa only [List.append_assoc, List.cons_append, List.nil_append, List.append_nil] using M
 refine rV 5 <| nT <| sR <| rV 3 <| pl_callM M (want_no rfl) (some 71) rfl 22 #[.pointer (some ⟨pb, 0, none⟩), .int .u64 5, .int .u64 1, .string (sealS keyA (nS 1) ⟨#[]⟩ ⟨#[116, 119, 111]⟩)] [⟨g1, .cells (av 5 (ls [.int .u64 2, .int .u64 3, .int .u64 10, .int .u64 20, .int .i64 8])) 26⟩] (Y4) (Y3) (by simp only [List.append_assoc, List.cons_append, List.nil_append, List.append_nil]) (fun T0 => .tuple #[.string ⟨#[]⟩, .int .i64 9]) (fun T0 => T0) (fun T0 => IsT pb ⟨2, 3, 10, 20, 8, 0, 5, keyB, keyA, false, true, [1]⟩ T0) (fun _ => by kernel_rfl) (fun w hL hT => o_no J4 ⟨by decide, by decide, by decide, by decide⟩ (by decide) (by decide) keyB_size (by decide) (by decide) (by decide) w hL hT) ?_
 rintro Y5 u13 J5 M
 replace M : Mem ⟨w, []⟩ (⟨g1, .cells (av 5 (ls [.int .u64 2, .int .u64 3, .int .u64 10, .int .u64 20, .int .i64 8])) 26⟩ :: (Y5 ++ Y3)) u13 := by simpa only [List.append_assoc, List.cons_append, List.nil_append, List.append_nil] using M
 refine rV 5 <| nT <| sR <| rV 1 <| pl_callM M (want_no rfl) (some 76) rfl 21 #[.pointer (some ⟨pb, 0, none⟩), .int .u64 5, .string ⟨#[120]⟩] [⟨g1, .cells (av 5 (ls [.int .u64 2, .int .u64 3, .int .u64 10, .int .u64 20, .int .i64 8])) 26⟩] (Y5) (Y3) (by simp only [List.append_assoc, List.cons_append, List.nil_append, List.append_nil]) (fun T0 => .tuple #[.int .u64 0, .string (sealS keyB (nS 0) ⟨#[]⟩ ⟨#[120]⟩), .int .i64 0]) (fun T0 => T0) (fun T0 => IsT pb ⟨2, 3, 10, 20, 8, 1, 5, keyB, keyA, false, true, [1]⟩ T0) (fun _ => by kernel_rfl) (fun w hL hT => s_ok J5 ⟨by decide, by decide, by decide, by decide⟩ (by decide) keyB_size (by decide) (by decide) rfl (by decide) w hL hT) ?_
 rintro Y6 u14 J6 M
 replace M : Mem ⟨w, []⟩ (⟨g1, .cells (av 5 (ls [.int .u64 2, .int .u64 3, .int .u64 10, .int .u64 20, .int .i64 8])) 26⟩ :: (Y6 ++ Y3)) u14 := by simpa only [List.append_assoc, List.cons_append, List.nil_append, List.append_nil] using M
 refine rV 7 <| nT <| sR <| rV 28 ?_
 refine pl_call M (want_on 26 true rfl 106 rfl (by kernel_rfl)) (some 108) rfl 12 #[.pointer (some ⟨pa, 0, none⟩), .int .u64 5] (.bool true) (fun _ => by kernel_rfl) (fun w M => call_val (a_Wants J3 (by decide) w M.laid (M.thereM (pre := (⟨g1, .cells (av 5 (ls [.int .u64 2, .int .u64 3, .int .u64 10, .int .u64 20, .int .i64 8])) 26⟩ :: Y6)) (T := Y3) (suf := []) (by simp only [List.append_assoc, List.cons_append, List.nil_append, List.append_nil]))) (congrArg Value.bool (by unfold TS.wn wnB; rw [show ovB keyA 20 5 5 = false from ov_no (x := ⟨2, 3, 10, 20, 8, 2, 5, keyA, keyB, true, true, []⟩) keyA_size (by decide)]; rfl))) fun u15 M => ?_
 refine rV 3 <| pl_call M (want_on 30 true rfl 110 rfl (by kernel_rfl)) (some 112) rfl 12 #[.pointer (some ⟨pb, 0, none⟩), .int .u64 5] (.bool false) (fun _ => by kernel_rfl) (fun w M => call_val (a_Wants J6 (by decide) w M.laid (M.thereM (pre := [⟨g1, .cells (av 5 (ls [.int .u64 2, .int .u64 3, .int .u64 10, .int .u64 20, .int .i64 8])) 26⟩]) (T := Y6) (suf := Y3) (by simp only [List.append_assoc, List.cons_append, List.nil_append, List.append_nil]))) (rfl)) fun u16 M => rV 4 <| pl_call M (want_on 35 true rfl 115 rfl (by kernel_rfl)) (some 117) rfl 10 #[.pointer (some ⟨pa, 0, none⟩), .int .u64 24] (.bool false) (fun _ => by kernel_rfl) (fun w M => call_val (a_Over J3 (by decide) w M.laid (M.thereM (pre := (⟨g1, .cells (av 5 (ls [.int .u64 2, .int .u64 3, .int .u64 10, .int .u64 20, .int .i64 8])) 26⟩ :: Y6)) (T := Y3) (suf := []) (by simp only [List.append_assoc, List.cons_append, List.nil_append, List.append_nil]))) (congrArg Value.bool (ov_no keyA_size (by decide)))) fun u17 M => rV 4 <| pl_call M (want_on 40 true rfl 120 rfl (by kernel_rfl)) (some 122) rfl 10 #[.pointer (some ⟨pa, 0, none⟩), .int .u64 25] (.bool true) (fun _ => by kernel_rfl) (fun w M => call_val (a_Over J3 (by decide) w M.laid (M.thereM (pre := (⟨g1, .cells (av 5 (ls [.int .u64 2, .int .u64 3, .int .u64 10, .int .u64 20, .int .i64 8])) 26⟩ :: Y6)) (T := Y3) (suf := []) (by simp only [List.append_assoc, List.cons_append, List.nil_append, List.append_nil]))) (congrArg Value.bool (ov_yes (by decide)))) fun u18 M => rV 3 <| pl_call M (want_on 44 true rfl 124 rfl (by kernel_rfl)) (some 126) rfl 15 #[.pointer (some ⟨pa, 0, none⟩)] (.int .u64 2) (fun _ => by kernel_rfl) (fun w M => call_val (a_Sent J3  w M.laid (M.thereM (pre := (⟨g1, .cells (av 5 (ls [.int .u64 2, .int .u64 3, .int .u64 10, .int .u64 20, .int .i64 8])) 26⟩ :: Y6)) (T := Y3) (suf := []) (by simp only [List.append_assoc, List.cons_append, List.nil_append, List.append_nil]))) (rfl)) fun u19 M => rV 4 <| pl_call M (want_on 49 true rfl 129 rfl (by kernel_rfl)) (some 131) rfl 14 #[.pointer (some ⟨pa, 0, none⟩)] (.bool true) (fun _ => by kernel_rfl) (fun w M => call_val (a_Sure J3  w M.laid (M.thereM (pre := (⟨g1, .cells (av 5 (ls [.int .u64 2, .int .u64 3, .int .u64 10, .int .u64 20, .int .i64 8])) 26⟩ :: Y6)) (T := Y3) (suf := []) (by simp only [List.append_assoc, List.cons_append, List.nil_append, List.append_nil]))) (rfl)) fun u20 M => rV 3 <| pl_call M (want_on 53 true rfl 133 rfl (by kernel_rfl)) (some 135) rfl 14 #[.pointer (some ⟨pb, 0, none⟩)] (.bool true) (fun _ => by kernel_rfl) (fun w M => call_val (a_Sure J6  w M.laid (M.thereM (pre := [⟨g1, .cells (av 5 (ls [.int .u64 2, .int .u64 3, .int .u64 10, .int .u64 20, .int .i64 8])) 26⟩]) (T := Y6) (suf := Y3) (by simp only [List.append_assoc, List.cons_append, List.nil_append, List.append_nil]))) (rfl)) fun u21 M => rV 2 <| nT <| wp_ret ?_
 exact b1 M
open Go.RowKit
def InfoK (P : Program) (e : TypeId) (K : Nat) (zv : Value) : Prop := ∃ i, P.info? e = some i ∧ i.zero = some zv ∧ i.size = K ∧ i.bytes ≤ 64
theorem infoK {P : Program} {e : TypeId} {K : Nat} {zv : Value} {b : Nat} (h1 : (P.info? e).map (·.zero) = some (some zv)) (h2 : (P.info? e).map (·.size) = some K) (h3 : (P.info? e).map (·.bytes) = some b) (hb : b ≤ 64) : InfoK P e K zv := by
 cases h : P.info? e with
 | none => rw [h] at h2; cases h2
 | some i =>
  rw [h] at h1 h2 h3
  simp only [Option.map_some, Option.some.injEq] at h1 h2 h3
  exact ⟨i, h, h1, h2, by omega⟩
structure SlV (K : Nat) (l : List Value) (n : Nat) (v : Value) (T : List Blk) : Prop where
 len : l.length = n * K
 ex : (n = 0 ∧ v = .slice none 0 0 ∧ T = []) ∨ ∃ g cap Z, 0 < n ∧ v = .slice (some ⟨g, 0, none⟩) n cap ∧ n ≤ cap ∧ SB Z (cap * K) l ∧ T = [⟨g, Z⟩]
theorem slv_nil (K : Nat) : SlV K [] 0 (.slice none 0 0) [] := ⟨by simp, .inl ⟨rfl, rfl, rfl⟩⟩
theorem slv_one {K : Nat} {l : List Value} {n : Nat} {v : Value} {T : List Blk} (h : SlV K l n v T) : v.oneCell' = true := by
 rcases h.ex with ⟨_, rfl, _⟩ | ⟨_, _, _, _, rfl, _⟩ <;> rfl
theorem slv_cells {K : Nat} {l : List Value} {n : Nat} {v : Value} {T : List Blk} (h : SlV K l n v T) : v.cells = #[v] := by
 rcases h.ex with ⟨_, rfl, _⟩ | ⟨_, _, _, _, rfl, _⟩ <;> rfl
theorem Mem.fetch {c : Ctx} {L pre suf : List Blk} {b : Blk} {W : World} (M : Mem c L W) (hp : L = pre ++ ([b] ++ suf)) : Mem c (b :: (pre ++ suf)) W := by
 subst hp
 exact M.perm List.perm_middle
section
variable {P : Program} {ops : Array Oper} {rest : List Oper} {o : Oper} {a : Act} {w : World} {c : Ctx} {L : List Blk} {Q : Exit → Act → World → Prop}
theorem pl_appS (M : Mem c L w) (hw : Region.wanted o (yielded ops a.tmps) = true) (d : Option Tmp) (hd : o.dst = d) (t ty e : TypeId) (K : Nat) (zv : Value) (ht : P.underlying t = some (.slice e)) (hin : InfoK P e K zv) (hzc : zv.cells.size = K) (pre T suf : List Blk) (hp : L = pre ++ (T ++ suf)) (sv : Value) (n : Nat) (l : List Value) (hS : SlV K l n sv T) (hle : n < 1000000) (j gx Tx : Nat) (F : NV) (hj : L[j]? = some ⟨gx, .cells (av K F) Tx⟩) (h1 : ∀ k, k < K → (F k).oneCell' = true)
  (hrun : ∀ w, (execOp a.eval o).run P w = (do pure (Next.value (← Builtin.append_ #[t, t] ty #[sv, .slice (some ⟨gx, 0, none⟩) 1 1]))).run P w)
  (h : ∀ sv' T' w', SlV K (l ++ (List.range K).map F) (n + 1) sv' T' → Mem c (pre ++ (T' ++ suf)) w' → PL P ops Q rest (a.put d sv') w') : PL P ops Q (o :: rest) a w := by
 obtain ⟨info, i1, i2, i3, i4⟩ := hin
 subst i3
 have hnl : ((List.range info.size).map F).length = info.size := by simp
 have hR := M.get j hj
 have hnews : ∀ k u, ((List.range info.size).map F)[k]? = some u → w.cell? ((⟨gx, 0, none⟩ : Addr).add k) = some u := fun k u hu => by
  have hk : k < info.size := by simpa using (List.getElem?_eq_some_iff.1 hu).1
  rw [add_at, Nat.zero_add, cell_av hR hk]
  rw [List.getElem?_map, List.getElem?_range hk] at hu
  exact hu
 have hone : ∀ u ∈ (List.range info.size).map F, u.oneCell' = true := fun u hu => by
  obtain ⟨k, hk, rfl⟩ := List.mem_map.1 hu
  exact h1 k (List.mem_range.1 hk)
 have hsrc : Src P info.size t (.slice (some ⟨gx, 0, none⟩) 1 1) 1 ((List.range info.size).map F) w := Src.ofSlice w ht ⟨gx, 0, none⟩ 1 1 _ (by rw [hnl, Nat.one_mul]) hnews hone
 have hlen := hS.len
 have grow : ∀ (base : Option Addr) (cap : Nat), sv = .slice base n cap → ¬ n < cap → n ≤ cap → (Builtin.firstCells info.size n (.slice base n cap)).run P w.drew = .ok l.toArray w.drew → PL P ops Q (o :: rest) a w := fun base cap hsv hroom hnc hold => by
  have hr := run_append_grow_src (P := P) w t t ty e info zv ht i1 i2 base n cap l hold (.slice (some ⟨gx, 0, none⟩) 1 1) 1 _ hsrc (by omega) (by omega) (growslice_fits (by omega) (by
    have := Nat.mul_le_mul (show n + 1 ≤ 1000000 by omega) i4
    omega))
  have hge := grownCap_ge w (n + 1) cap e
  generalize grownCap w (n + 1) cap e = nc at hr hge
  have hr2 : (execOp a.eval o).run P w = .ok (.value (.slice (some ⟨w.heap.size, 0, none⟩) (n + 1) nc)) (w.drew.alloc (.cells ((l ++ (List.range info.size).map F).toArray ++ Builtin.zeroCells zv.cells (nc - (n + 1))) e)) := by
   rw [hrun, hsv]
   simp only [Sem.run_bind, hr, Result.andThen_ok, Sem.run_pure]
  have hll : (l ++ (List.range info.size).map F).length = (n + 1) * info.size := by rw [List.length_append, hnl, hlen, Nat.succ_mul]
  obtain ⟨q, rfl⟩ : ∃ q, nc = n + 1 + q := ⟨nc - (n + 1), by omega⟩
  have hsz : ((l ++ (List.range info.size).map F).toArray ++ Builtin.zeroCells zv.cells (n + 1 + q - (n + 1))).size = (n + 1 + q) * info.size := by
   rw [Array.size_append, List.size_toArray, hll, size_zeroCells, hzc, Nat.add_sub_cancel_left, ← Nat.add_mul]
  have hcm : (n + 1) * info.size ≤ (n + 1 + q) * info.size := Nat.mul_le_mul_right _ (by omega)
  refine pl_to hw d hd _ _ hr2 (h _ [⟨w.heap.size, _⟩] _ ⟨hll, .inr ⟨w.heap.size, n + 1 + q, _, by omega, rfl, by omega, ⟨_, e, (0, 0), rfl, by rw [hll]; exact hcm, by rw [hsz]; exact Nat.le_refl _, fun k hk => ?_, fun k _ => by simp⟩, rfl⟩⟩ (M.drew.mid hp ⟨grown_below (new_below w.drew _) _, ?_, by simp, by simp⟩))
  ·rw [Array.getElem?_append_left (by simpa using hk)]
   simp
  ·simpa using heap_alloc_new w.drew _
 rcases hS.ex with ⟨hn0, hv, rfl⟩ | ⟨g, cap, Z, hn0, hv, hnc, hs, rfl⟩
 ·subst hn0
  have hl0 : l = [] := List.length_eq_zero_iff.1 (by simpa using hlen)
  subst hl0
  exact grow none 0 hv (by omega) (by omega) (run_firstCells_none w.drew info.size 0 0 0)
 ·have hz : w.heap[g]? = some Z := (M.thereM hp).at_ ⟨g, Z⟩ (by simp)
  by_cases hroom : n < cap
  ·obtain ⟨cs, T, fr, hZ, h4, h5, h6, h7⟩ := hs.ex
   have hcm : n * info.size + info.size ≤ cap * info.size := by rw [← Nat.succ_mul]; exact Nat.mul_le_mul_right _ hroom
   obtain ⟨Z', h2, h3⟩ := hs.sets ((List.range info.size).map F) (by rw [hnl, hlen]; exact hcm) hz
   have hg := hz
   rw [hZ] at hg
   have hr := run_append_room_src (P := P) w t t ty e info ht i1 g 0 n cap (.slice (some ⟨gx, 0, none⟩) 1 1) 1 _ hsrc hroom (fun k hk => by
     rw [hnl] at hk
     rw [Nat.zero_add]
     unfold World.cell?
     rw [hg]
     simp
     omega) (fun k hk => by
     rw [hnl] at hk
     rw [Nat.zero_add]
     unfold World.frozen?
     rw [hg]
     exact h7 _ (by show n * info.size + k < cap * info.size; omega))
   rw [Nat.zero_add, ← hlen] at hr
   have hr2 : (execOp a.eval o).run P w = .ok (.value (.slice (some ⟨g, 0, none⟩) (n + 1) cap)) (w.setCells g l.length ((List.range info.size).map F)) := by
    rw [hrun, hv]
    simp only [Sem.run_bind, hr, Result.andThen_ok, Sem.run_pure]
   exact pl_to hw d hd _ _ hr2 (h _ [⟨g, Z'⟩] _ ⟨by rw [List.length_append, hnl, hlen, Nat.succ_mul], .inr ⟨g, cap, Z', by omega, rfl, by omega, h3, rfl⟩⟩ (M.mid hp ⟨grown_setCells g _ _ _, by simpa using h2, by simp, by simp⟩))
  ·exact grow _ cap hv hroom hnc (run_firstCells_some w.drew info.size n ⟨g, 0, none⟩ n cap l hlen (fun k u hu => by rw [add_at, Nat.zero_add]; exact hs.cell (W := w.drew) hz hu))
end
open Go.RowKit
def vsU (l : List Nat) : List Value := l.map fun (n : Nat) => Value.int .u64 (n : Int)
theorem vsU_app (l : List Nat) (n : Nat) : vsU (l ++ [n]) = vsU l ++ [.int .u64 (n : Int)] := by simp [vsU]
theorem vsU_at (l : List Nat) (j : Nat) (h : j < l.length) : (vsU l)[j]? = some (.int .u64 ((l.getD j 0 : Nat) : Int)) := by
 simp [vsU, h]
theorem mx_step (l : List Nat) (j : Nat) (h : j < l.length) : max ((mx (l.take j) : Nat) : Int) ((l.getD j 0 : Nat) : Int) = ((mx (l.take (j + 1)) : Nat) : Int) := by
 have e : l.take (j + 1) = l.take j ++ [l.getD j 0] := by
  rw [List.take_add_one]
  simp [h]
 rw [e, mx_app]
 omega
theorem my_nil (s n : Nat) : my s [] n = 0 := by simp [my]
theorem mk_yes {s n : Nat} {l : List Nat} (h : my s l n = 0) : mk s l n = l ++ [n] := if_pos h
theorem mk_no {s n : Nat} {l : List Nat} (h : ¬ my s l n = 0) : mk s l n = l := if_neg h
theorem my_old {s n : Nat} (l : List Nat) (h0 : 0 < l.length) (h1 : n < mx l) (h2 : s ≤ mx l - n) : my s l n = 170 := if_pos ⟨fun e => by subst e; simp at h0, h1, h2⟩
theorem my_there {s n : Nat} (l : List Nat) (j : Nat) (hj : j < l.length) (hn : ¬ (n < mx l ∧ s ≤ mx l - n)) (h : l.getD j 0 = n) : my s l n = 9 := by
 unfold my
 rw [if_neg (fun x => hn x.2), if_pos]
 rw [← h]
 simp [hj]
theorem my_free {s n : Nat} (l : List Nat) (hn : ¬ (n < mx l ∧ s ≤ mx l - n)) (h : ∀ i, i < l.length → l.getD i 0 ≠ n) : my s l n = 0 := by
 unfold my
 rw [if_neg (fun x => hn x.2), if_neg]
 intro hm
 obtain ⟨i, hi, e⟩ := List.mem_iff_getElem.1 hm
 exact h i hi (by simp [hi, e])
theorem ex_step {l : List Nat} {n j : Nat} (h : ∀ i, i < j → l.getD i 0 ≠ n) (hj : l.getD j 0 ≠ n) : ∀ i, i < j + 1 → l.getD i 0 ≠ n := by
 intro i hi
 by_cases e : i = j
 ·subst e
  exact hj
 ·exact h i (by omega)
theorem d_Highest0 {y : TS} {gn : Bool} {d : Nat} (hq : y.q = []) (w : World) (hL : Laid w)  (hT : There w [⟨d, .cells (av 14 (ls [.string y.sd, .string y.rv, .bool (y.fi), .int .u64 ((y.mt : Nat) : Int), .int .u64 ((y.rc : Nat) : Int), .int .u64 ((y.ct : Nat) : Int), .int .u64 ((y.rk : Nat) : Int), .int .u64 ((y.lf : Nat) : Int), .int .i64 ((y.sz : Nat) : Int), .int .u64 ((y.nx : Nat) : Int), .int .i64 ((y.sz : Nat) : Int), .slice none 0 0, .bool (y.su), .bool (gn)])) 51⟩]) : Cs 73 #[.pointer (some ⟨d, 10, none⟩)] w (.tuple #[.int .u64 ((mx y.q : Nat) : Int), .bool (decide (0 < y.q.length))]) := by
 go_enter Tryz.func73, Tryz.ntmps73
 have M : Mem ⟨w, [d]⟩ [⟨d, .cells (av 14 (ls [.string y.sd, .string y.rv, .bool (y.fi), .int .u64 ((y.mt : Nat) : Int), .int .u64 ((y.rc : Nat) : Int), .int .u64 ((y.ct : Nat) : Int), .int .u64 ((y.rk : Nat) : Int), .int .u64 ((y.lf : Nat) : Int), .int .i64 ((y.sz : Nat) : Int), .int .u64 ((y.nx : Nat) : Int), .int .i64 ((y.sz : Nat) : Int), .slice none 0 0, .bool (y.su), .bool (gn)])) 51⟩] w := Mem.startT hL hT
 refine sq <| sq <| wp_seq <| sq <| wp_block <| wp_loop_rounds 1 ?_
 refine rounds_go <| wp_seq <| sR <| rV 4 <| ZE M 10 0 11 <| rV 2 <| nT <| cF <| wp_exit <| au_then_exit <| au_then_exit <| au_block_exit <| au_then <| wp_seq <| rg_held M [⟨d, .cells (av 14 (ls [.string y.sd, .string y.rv, .bool (y.fi), .int .u64 ((y.mt : Nat) : Int), .int .u64 ((y.rc : Nat) : Int), .int .u64 ((y.ct : Nat) : Int), .int .u64 ((y.rk : Nat) : Int), .int .u64 ((y.lf : Nat) : Int), .int .i64 ((y.sz : Nat) : Int), .int .u64 ((y.nx : Nat) : Int), .int .i64 ((y.sz : Nat) : Int), .slice none 0 0, .bool (y.su), .bool (gn)])) 51⟩] 8 rfl (by kernel_rfl) (by kernel_rfl) (fun _ _ d _ _ h => by cases d <;> exact h) fun u1 M => ?_
 replace M : Mem ⟨w, [d]⟩ [⟨d, .cells (av 14 (ls [.string y.sd, .string y.rv, .bool (y.fi), .int .u64 ((y.mt : Nat) : Int), .int .u64 ((y.rc : Nat) : Int), .int .u64 ((y.ct : Nat) : Int), .int .u64 ((y.rk : Nat) : Int), .int .u64 ((y.lf : Nat) : Int), .int .i64 ((y.sz : Nat) : Int), .int .u64 ((y.nx : Nat) : Int), .int .i64 ((y.sz : Nat) : Int), .slice none 0 0, .bool (y.su), .bool (gn)])) 51⟩] u1 := M
 refine qV M 0 24 (.int .u64 0) <| qV M 1 25 (.pointer (some ⟨d, 10, none⟩)) <| qV M 2 26 (.pointer (some ⟨d, 10, none⟩)) <| qV M 3 27 (.pointer (some ⟨d, 11, none⟩)) <| hl_cell M 4 rfl (by decide) (by kernel_rfl) (by kernel_rfl) (want_no rfl) (some 28) rfl 47 _ rfl d 11 (by kernel_rfl) (.slice none 0 0) (fun _ => by kernel_rfl) (fun w M => M.cell 0 rfl (by decide) rfl) <| qV M 5 29 (.int .i64 0) <| qV M 6 30 (.bool false) <| qV M 7 2 (.int .u64 0) <| hl_end (by kernel_rfl) (by kernel_rfl) rfl <| rV 1 <| nT <| au_then <| wp_ret ?_
 exact bodyPost_ret (v := .tuple #[.int .u64 0, .bool false]) (results_tmp2 Tryz.results73 _ _ _ _ (by kernel_rfl) (by kernel_rfl)) (by kernel_rfl) ⟨by rw [hq]; rfl, ro_T hT M⟩
theorem d_May0 {y : TS} {gn : Bool} {d : Nat} (hq : y.q = []) {n : Nat} (w : World) (hL : Laid w)  (hT : There w [⟨d, .cells (av 14 (ls [.string y.sd, .string y.rv, .bool (y.fi), .int .u64 ((y.mt : Nat) : Int), .int .u64 ((y.rc : Nat) : Int), .int .u64 ((y.ct : Nat) : Int), .int .u64 ((y.rk : Nat) : Int), .int .u64 ((y.lf : Nat) : Int), .int .i64 ((y.sz : Nat) : Int), .int .u64 ((y.nx : Nat) : Int), .int .i64 ((y.sz : Nat) : Int), .slice none 0 0, .bool (y.su), .bool (gn)])) 51⟩]) : Cs 53 #[.pointer (some ⟨d, 10, none⟩), .int .u64 (n : Int)] w (.int .i64 (my y.sz y.q n)) := by
 go_enter Tryz.func53, Tryz.ntmps53
 have M : Mem ⟨w, [d]⟩ [⟨d, .cells (av 14 (ls [.string y.sd, .string y.rv, .bool (y.fi), .int .u64 ((y.mt : Nat) : Int), .int .u64 ((y.rc : Nat) : Int), .int .u64 ((y.ct : Nat) : Int), .int .u64 ((y.rk : Nat) : Int), .int .u64 ((y.lf : Nat) : Int), .int .i64 ((y.sz : Nat) : Int), .int .u64 ((y.nx : Nat) : Int), .int .i64 ((y.sz : Nat) : Int), .slice none 0 0, .bool (y.su), .bool (gn)])) 51⟩] w := Mem.startT hL hT
 refine sq <| sR <| rV 1 <| pC M 10 73 #[.pointer (some ⟨d, 10, none⟩)] (.tuple #[.int .u64 0, .bool false]) (fun w M => call_val (d_Highest0 hq w M.laid (M.there (.cons_cons _ (List.nil_sublist _)))) (by rw [hq]; rfl)) fun u1 M => rV 5 <| nT <| wp_seq <| sq <| cF <| wp_skip <| au_then <| wp_seq <| sq <| wp_block <| wp_loop_rounds 1 ?_
 refine rounds_go <| wp_seq <| sR <| rV 4 <| ZE M 34 0 11 <| rV 2 <| nT <| cF <| wp_exit <| au_then_exit <| au_then_exit <| au_block_exit <| au_then <| sq <| wp_ret ?_
 exact bodyPost_ret (v := .int .i64 0) (results_tmp1 Tryz.results53 _ _ _ (by kernel_rfl)) (by kernel_rfl) ⟨by rw [hq, my_nil], ro_T hT M⟩
theorem d_Highest1 {y : TS} {gn : Bool} {d : Nat} {k cap : Nat} {Z : Obj} (hZ : SB Z cap (vsU y.q)) (h0 : 0 < y.q.length) (hl : y.q.length < 1000000) (w : World) (hL : Laid w)  (hT : There w [⟨d, .cells (av 14 (ls [.string y.sd, .string y.rv, .bool (y.fi), .int .u64 ((y.mt : Nat) : Int), .int .u64 ((y.rc : Nat) : Int), .int .u64 ((y.ct : Nat) : Int), .int .u64 ((y.rk : Nat) : Int), .int .u64 ((y.lf : Nat) : Int), .int .i64 ((y.sz : Nat) : Int), .int .u64 ((y.nx : Nat) : Int), .int .i64 ((y.sz : Nat) : Int), .slice (some ⟨k, 0, none⟩) y.q.length cap, .bool (y.su), .bool (gn)])) 51⟩, ⟨k, Z⟩]) : Cs 73 #[.pointer (some ⟨d, 10, none⟩)] w (.tuple #[.int .u64 ((mx y.q : Nat) : Int), .bool (decide (0 < y.q.length))]) := by
 go_enter Tryz.func73, Tryz.ntmps73
 have M : Mem ⟨w, [d, k]⟩ [⟨d, .cells (av 14 (ls [.string y.sd, .string y.rv, .bool (y.fi), .int .u64 ((y.mt : Nat) : Int), .int .u64 ((y.rc : Nat) : Int), .int .u64 ((y.ct : Nat) : Int), .int .u64 ((y.rk : Nat) : Int), .int .u64 ((y.lf : Nat) : Int), .int .i64 ((y.sz : Nat) : Int), .int .u64 ((y.nx : Nat) : Int), .int .i64 ((y.sz : Nat) : Int), .slice (some ⟨k, 0, none⟩) y.q.length cap, .bool (y.su), .bool (gn)])) 51⟩, ⟨k, Z⟩] w := Mem.startT hL hT
 refine sq <| sq <| wp_seq <| sq <| wp_block ?_
 refine au_loop (fun j a w' => ∃ v1 : NV, a = (fm ([.pointer (some ⟨d, 10, none⟩), undef, .int .u64 0, .bool false, .int .u64 ((mx (y.q.take j) : Nat) : Int), .int .i64 (j : Int)] ++ vr v1 6 18 ++ und 7)) ∧ Mem ⟨w, [d, k]⟩ [⟨d, .cells (av 14 (ls [.string y.sd, .string y.rv, .bool (y.fi), .int .u64 ((y.mt : Nat) : Int), .int .u64 ((y.rc : Nat) : Int), .int .u64 ((y.ct : Nat) : Int), .int .u64 ((y.rk : Nat) : Int), .int .u64 ((y.lf : Nat) : Int), .int .i64 ((y.sz : Nat) : Int), .int .u64 ((y.nx : Nat) : Int), .int .i64 ((y.sz : Nat) : Int), .slice (some ⟨k, 0, none⟩) y.q.length cap, .bool (y.su), .bool (gn)])) 51⟩, ⟨k, Z⟩] w') y.q.length (exS M) ?_ ?_
 ·intro j a u0 hj hI
  obtain ⟨v1, rfl, M⟩ := hI
  refine wp_seq <| sR <| rV 4 <| ZE M 10 0 11 <| rV 1 <| ZT 12 ((j : Int) < ((y.q.length : Nat) : Int)) <| nT <| cT <| wp_skip <| au_then <| wp_seq <| wp_block <| rg_lit <| rV 4 <| ZE M 19 0 11 <| rV 1 ?_
  refine pH 21 (.pointer (some ⟨k, j, none⟩)) (run_ix0 47 24 Tryz.underlying47 inz24 _ _ rfl k y.q.length cap (by kernel_rfl) .i64 j (by kernel_rfl) (by omega)) <| pE M 22 k j (.int .u64 ((y.q.getD j 0 : Nat) : Int)) (fun w M => hZ.cell (M.get 1 rfl) (vsU_at y.q j (by omega))) <| pH 23 (.int .u64 ((mx (y.q.take (j + 1)) : Nat) : Int)) (fun w => Eq.trans (b := .ok (.value (.int .u64 (if ((y.q.getD j 0 : Nat) : Int) > ((mx (y.q.take j) : Nat) : Int) then ((y.q.getD j 0 : Nat) : Int) else ((mx (y.q.take j) : Nat) : Int)))) w) (by kernel_rfl) (by rw [if_max, mx_step y.q j hj])) <| rV 1 <| pl_nil <| au_block <| au_then <| rg_lit <| rV 1 ?_
  refine pH 14 (.int .i64 ((j + 1 : Nat) : Int)) (fun w => Eq.trans (b := .ok (.value (.int .i64 (IntKind.wrap .i64 ((j : Int) + 1)))) w) (by kernel_rfl) (by rw [wrap64 (by omega) (by omega)]; rfl)) ?_
  refine rV 1 <| nT ?_
  exact exS M
 ·intro a u0 hI
  obtain ⟨v1, rfl, M⟩ := hI
  refine wp_seq <| sR <| rV 4 <| ZE M 10 0 11 <| rV 1 <| ZF 12 (((y.q.length : Nat) : Int) < ((y.q.length : Nat) : Int)) <| nT <| cF <| wp_exit <| au_then_exit <| au_then_exit <| au_block_exit <| au_then <| wp_seq <| rg_held M [⟨d, .cells (av 14 (ls [.string y.sd, .string y.rv, .bool (y.fi), .int .u64 ((y.mt : Nat) : Int), .int .u64 ((y.rc : Nat) : Int), .int .u64 ((y.ct : Nat) : Int), .int .u64 ((y.rk : Nat) : Int), .int .u64 ((y.lf : Nat) : Int), .int .i64 ((y.sz : Nat) : Int), .int .u64 ((y.nx : Nat) : Int), .int .i64 ((y.sz : Nat) : Int), .slice (some ⟨k, 0, none⟩) y.q.length cap, .bool (y.su), .bool (gn)])) 51⟩, ⟨k, Z⟩] 8 rfl (by kernel_rfl) (by kernel_rfl) (fun _ _ d _ _ h => by cases d <;> exact h) fun u1 M => ?_
  replace M : Mem ⟨w, [d, k]⟩ [⟨d, .cells (av 14 (ls [.string y.sd, .string y.rv, .bool (y.fi), .int .u64 ((y.mt : Nat) : Int), .int .u64 ((y.rc : Nat) : Int), .int .u64 ((y.ct : Nat) : Int), .int .u64 ((y.rk : Nat) : Int), .int .u64 ((y.lf : Nat) : Int), .int .i64 ((y.sz : Nat) : Int), .int .u64 ((y.nx : Nat) : Int), .int .i64 ((y.sz : Nat) : Int), .slice (some ⟨k, 0, none⟩) y.q.length cap, .bool (y.su), .bool (gn)])) 51⟩, ⟨k, Z⟩] u1 := M
  refine qV M 0 24 (.int .u64 ((mx (y.q.take y.q.length) : Nat) : Int)) <| qV M 1 25 (.pointer (some ⟨d, 10, none⟩)) <| qV M 2 26 (.pointer (some ⟨d, 10, none⟩)) <| qV M 3 27 (.pointer (some ⟨d, 11, none⟩)) <| hl_cell M 4 rfl (by decide) (by kernel_rfl) (by kernel_rfl) (want_no rfl) (some 28) rfl 47 _ rfl d 11 (by kernel_rfl) (.slice (some ⟨k, 0, none⟩) y.q.length cap) (fun _ => by kernel_rfl) (fun w M => M.cell 0 rfl (by decide) rfl) <| qV M 5 29 (.int .i64 ((y.q.length : Nat) : Int)) ?_
  by_cases c0 : 0 < ((y.q.length : Nat) : Int)
  ·refine hl_val M 6 rfl (by decide) (by kernel_rfl) (by kernel_rfl) (want_no rfl) (some 30) rfl (.bool true) (fun w _ => (fun w => Eq.trans (b := .ok (.value (.bool (decide (0 < ((y.q.length : Nat) : Int))))) w) (by kernel_rfl) (by rw [decide_eq_true (c0)])) w) <| qV M 7 2 (.int .u64 ((mx (y.q.take y.q.length) : Nat) : Int)) <| hl_end (by kernel_rfl) (by kernel_rfl) rfl <| rV 1 <| nT <| au_then <| wp_ret ?_
   exact bodyPost_ret (v := .tuple #[.int .u64 ((mx (y.q.take y.q.length) : Nat) : Int), .bool true]) (results_tmp2 Tryz.results73 _ _ _ _ (by kernel_rfl) (by kernel_rfl)) (by kernel_rfl) ⟨by rw [List.take_length, decide_eq_true h0], ro_T hT M⟩
  ·exfalso; omega
theorem d_May1 {y : TS} {gn : Bool} {d : Nat} {k cap : Nat} {Z : Obj} (hZ : SB Z cap (vsU y.q)) (h0 : 0 < y.q.length) (hl : y.q.length < 1000000) {n : Nat} (hs : 1 ≤ y.sz) (hs4 : y.sz ≤ 4096) (hM : ∀ x ∈ y.q, x < 18446744073709551616) (w : World) (hL : Laid w)  (hT : There w [⟨d, .cells (av 14 (ls [.string y.sd, .string y.rv, .bool (y.fi), .int .u64 ((y.mt : Nat) : Int), .int .u64 ((y.rc : Nat) : Int), .int .u64 ((y.ct : Nat) : Int), .int .u64 ((y.rk : Nat) : Int), .int .u64 ((y.lf : Nat) : Int), .int .i64 ((y.sz : Nat) : Int), .int .u64 ((y.nx : Nat) : Int), .int .i64 ((y.sz : Nat) : Int), .slice (some ⟨k, 0, none⟩) y.q.length cap, .bool (y.su), .bool (gn)])) 51⟩, ⟨k, Z⟩]) : Cs 53 #[.pointer (some ⟨d, 10, none⟩), .int .u64 (n : Int)] w (.int .i64 (my y.sz y.q n)) := by
 go_enter Tryz.func53, Tryz.ntmps53
 have M : Mem ⟨w, [d, k]⟩ [⟨d, .cells (av 14 (ls [.string y.sd, .string y.rv, .bool (y.fi), .int .u64 ((y.mt : Nat) : Int), .int .u64 ((y.rc : Nat) : Int), .int .u64 ((y.ct : Nat) : Int), .int .u64 ((y.rk : Nat) : Int), .int .u64 ((y.lf : Nat) : Int), .int .i64 ((y.sz : Nat) : Int), .int .u64 ((y.nx : Nat) : Int), .int .i64 ((y.sz : Nat) : Int), .slice (some ⟨k, 0, none⟩) y.q.length cap, .bool (y.su), .bool (gn)])) 51⟩, ⟨k, Z⟩] w := Mem.startT hL hT
 have hmx := mx_lt (by decide) hM
 refine sq <| sR <| rV 1 <| pC M 10 73 #[.pointer (some ⟨d, 10, none⟩)] (.tuple #[.int .u64 ((mx y.q : Nat) : Int), .bool true]) (fun w M => call_val (d_Highest1 hZ h0 hl w M.laid (M.there (.cons_cons _ (.cons_cons _ (List.nil_sublist _))))) (by rw [decide_eq_true h0])) fun u1 M => rV 5 <| nT <| wp_seq <| sR <| rV 4 ?_
 by_cases c0 : (n : Int) < ((mx y.q : Nat) : Int)
 ·refine pl_val (want_on 1 true rfl 14 rfl (by kernel_rfl)) (some 17) rfl (.bool true) (fun w => Eq.trans (b := .ok (.value (.bool (decide ((n : Int) < ((mx y.q : Nat) : Int))))) w) (by kernel_rfl) (by rw [decide_eq_true (c0)])) <| rV 4 <| pl_val (want_on 6 true rfl 19 rfl (by kernel_rfl)) (some 22) rfl (.int .u64 ((mx y.q - n : Nat) : Int)) (fun w => Eq.trans (b := .ok (.value (.int .u64 (IntKind.wrap .u64 ((((mx y.q) : Nat) : Int) - ((n : Nat) : Int))))) w) (by kernel_rfl) (by rw [wrapU_sub (mx y.q) n (by omega) (by omega)])) <| rV 3 <| pl_cell M (want_on 6 true rfl 19 rfl (by kernel_rfl)) (some 26) rfl 3 _ rfl d 10 (by kernel_rfl) (.int .i64 ((y.sz : Nat) : Int)) (fun _ => by kernel_rfl) (fun w M => M.cell 0 rfl (by decide) rfl) <| pl_val (want_on 6 true rfl 19 rfl (by kernel_rfl)) (some 27) rfl (.int .u64 ((y.sz : Nat) : Int)) (fun w => Eq.trans (b := .ok (.value (.int .u64 (cv .u64 ((y.sz : Nat) : Int)))) w) (by kernel_rfl) (by rw [cv_u64, Int.emod_eq_of_lt (by omega) (by omega)])) ?_
  by_cases c1 : ((mx y.q - n : Nat) : Int) < ((y.sz : Nat) : Int)
  ·refine pl_val (want_on 6 true rfl 19 rfl (by kernel_rfl)) (some 28) rfl (.bool false) (fun w => Eq.trans (b := .ok (.value (.bool (decide (((y.sz : Nat) : Int) ≤ ((mx y.q - n : Nat) : Int))))) w) (by kernel_rfl) (by rw [decide_eq_false (by omega)])) <| rV 1 <| nT <| cF <| wp_skip <| au_then <| wp_seq <| sq <| wp_block ?_
   refine au_loop (fun j a w' => ∃ v1 : NV, a = (fm ([.pointer (some ⟨d, 10, none⟩), .int .u64 (n : Int), undef, undef, v1 4, .int .u64 ((mx y.q : Nat) : Int), .bool true, .int .i64 (j : Int), .tuple #[.int .u64 ((mx y.q : Nat) : Int), .bool true], .pointer (some ⟨d, 10, none⟩), .tuple #[.int .u64 ((mx y.q : Nat) : Int), .bool true], .int .u64 ((mx y.q : Nat) : Int), .bool true, .bool true, .bool true, .int .u64 (n : Int), .int .u64 ((mx y.q : Nat) : Int), .bool true, .bool true, .bool true, .int .u64 ((mx y.q : Nat) : Int), .int .u64 (n : Int), .int .u64 ((mx y.q - n : Nat) : Int), .pointer (some ⟨d, 10, none⟩), .pointer (some ⟨d, 10, none⟩), .pointer (some ⟨d, 10, none⟩), .int .i64 ((y.sz : Nat) : Int), .int .u64 ((y.sz : Nat) : Int), .bool false, .bool false] ++ vr v1 30 18)) ∧ Mem ⟨w, [d, k]⟩ [⟨d, .cells (av 14 (ls [.string y.sd, .string y.rv, .bool (y.fi), .int .u64 ((y.mt : Nat) : Int), .int .u64 ((y.rc : Nat) : Int), .int .u64 ((y.ct : Nat) : Int), .int .u64 ((y.rk : Nat) : Int), .int .u64 ((y.lf : Nat) : Int), .int .i64 ((y.sz : Nat) : Int), .int .u64 ((y.nx : Nat) : Int), .int .i64 ((y.sz : Nat) : Int), .slice (some ⟨k, 0, none⟩) y.q.length cap, .bool (y.su), .bool (gn)])) 51⟩, ⟨k, Z⟩] w' ∧ (∀ i, i < j → y.q.getD i 0 ≠ n)) y.q.length ⟨fun k_ => ([.int .i64 0, undef, undef, undef, undef, undef, undef, undef, undef, undef, undef, undef, undef, undef, undef, undef, undef, undef, undef, undef, undef, undef, undef, undef, undef, undef, undef, undef, undef, undef, undef, undef, undef, undef, undef, undef, undef, undef, undef, undef, undef, undef, undef, undef] : List Value).getD (k_ - 4) undef, by kernel_rfl, M, fun i hi => absurd hi (Nat.not_lt_zero i)⟩ ?_ ?_
   ·intro j a u0 hj hI
    obtain ⟨v1, rfl, M, hx⟩ := hI
    refine wp_seq <| sR <| rV 4 <| ZE M 34 0 11 <| rV 1 <| ZT 36 ((j : Int) < ((y.q.length : Nat) : Int)) <| nT <| cT <| wp_skip <| au_then <| wp_seq <| wp_block <| sR <| rV 3 <| ZE M 42 0 11 <| rV 1 ?_
    refine pH 44 (.pointer (some ⟨k, j, none⟩)) (run_ix0 47 24 Tryz.underlying47 inz24 _ _ rfl k y.q.length cap (by kernel_rfl) .i64 j (by kernel_rfl) (by omega)) <| pE M 45 k j (.int .u64 ((y.q.getD j 0 : Nat) : Int)) (fun w M => hZ.cell (M.get 1 rfl) (vsU_at y.q j (by omega))) <| rV 1 ?_
    by_cases c2 : ((y.q.getD j 0 : Nat) : Int) = (n : Int)
    ·refine pH 47 (.bool true) (jT (((y.q.getD j 0 : Nat) : Int) = (n : Int)) (c2)) <| nT <| cT <| sq <| wp_ret <| au_block_ret <| au_then_ret <| au_then_ret <| au_block_ret <| au_then_ret ?_
     exact bodyPost_ret (v := .int .i64 9) (results_tmp1 Tryz.results53 _ _ _ (by kernel_rfl)) (by kernel_rfl) ⟨by rw [my_there y.q j hj (by omega) (by omega)], ro_T hT M⟩
    ·refine pH 47 (.bool false) (jF (((y.q.getD j 0 : Nat) : Int) = (n : Int)) (c2)) <| nT <| cF <| wp_skip <| au_block <| au_then <| rg_lit <| rV 1 ?_
     refine pH 38 (.int .i64 ((j + 1 : Nat) : Int)) (fun w => Eq.trans (b := .ok (.value (.int .i64 (IntKind.wrap .i64 ((j : Int) + 1)))) w) (by kernel_rfl) (by rw [wrap64 (by omega) (by omega)]; rfl)) ?_
     refine rV 1 <| nT ?_
     exact ⟨fun k_ => ([v1 4, undef, undef, undef, undef, undef, undef, undef, undef, undef, undef, undef, undef, undef, undef, undef, undef, undef, undef, undef, undef, undef, undef, undef, undef, undef, .int .i64 (j : Int), .pointer (some ⟨d, 10, none⟩), .pointer (some ⟨d, 10, none⟩), .pointer (some ⟨d, 11, none⟩), .slice (some ⟨k, 0, none⟩) y.q.length cap, .int .i64 ((y.q.length : Nat) : Int), .bool true, .int .i64 (j : Int), .int .i64 ((j + 1 : Nat) : Int), .pointer (some ⟨d, 10, none⟩), .pointer (some ⟨d, 10, none⟩), .pointer (some ⟨d, 11, none⟩), .slice (some ⟨k, 0, none⟩) y.q.length cap, .int .i64 (j : Int), .pointer (some ⟨k, j, none⟩), .int .u64 ((y.q.getD j 0 : Nat) : Int), .int .u64 (n : Int), .bool false] : List Value).getD (k_ - 4) undef, by kernel_rfl, M, ex_step hx (by omega)⟩
   ·intro a u0 hI
    obtain ⟨v1, rfl, M, hx⟩ := hI
    refine wp_seq <| sR <| rV 4 <| ZE M 34 0 11 <| rV 1 <| ZF 36 (((y.q.length : Nat) : Int) < ((y.q.length : Nat) : Int)) <| nT <| cF <| wp_exit <| au_then_exit <| au_then_exit <| au_block_exit <| au_then <| sq <| wp_ret ?_
    exact bodyPost_ret (v := .int .i64 0) (results_tmp1 Tryz.results53 _ _ _ (by kernel_rfl)) (by kernel_rfl) ⟨by rw [my_free y.q (by omega) hx], ro_T hT M⟩
  ·refine pl_val (want_on 6 true rfl 19 rfl (by kernel_rfl)) (some 28) rfl (.bool true) (fun w => Eq.trans (b := .ok (.value (.bool (decide (((y.sz : Nat) : Int) ≤ ((mx y.q - n : Nat) : Int))))) w) (by kernel_rfl) (by rw [decide_eq_true (by omega)])) <| rV 1 <| nT <| cT <| sq <| wp_ret <| au_then_ret ?_
   exact bodyPost_ret (v := .int .i64 170) (results_tmp1 Tryz.results53 _ _ _ (by kernel_rfl)) (by kernel_rfl) ⟨by rw [my_old y.q (by omega) (by omega) (by omega)], ro_T hT M⟩
 ·refine pl_val (want_on 1 true rfl 14 rfl (by kernel_rfl)) (some 17) rfl (.bool false) (fun w => Eq.trans (b := .ok (.value (.bool (decide ((n : Int) < ((mx y.q : Nat) : Int))))) w) (by kernel_rfl) (by rw [decide_eq_false (c0)])) <| rV 12 <| nT <| cF <| wp_skip <| au_then <| wp_seq <| sq <| wp_block ?_
  refine au_loop (fun j a w' => ∃ v1 : NV, a = (fm ([.pointer (some ⟨d, 10, none⟩), .int .u64 (n : Int), undef, undef, v1 4, .int .u64 ((mx y.q : Nat) : Int), .bool true, .int .i64 (j : Int), .tuple #[.int .u64 ((mx y.q : Nat) : Int), .bool true], .pointer (some ⟨d, 10, none⟩), .tuple #[.int .u64 ((mx y.q : Nat) : Int), .bool true], .int .u64 ((mx y.q : Nat) : Int), .bool true, .bool true, .bool true, .int .u64 (n : Int), .int .u64 ((mx y.q : Nat) : Int), .bool false, .bool false, .bool false] ++ und 9 ++ [.bool false] ++ vr v1 30 18)) ∧ Mem ⟨w, [d, k]⟩ [⟨d, .cells (av 14 (ls [.string y.sd, .string y.rv, .bool (y.fi), .int .u64 ((y.mt : Nat) : Int), .int .u64 ((y.rc : Nat) : Int), .int .u64 ((y.ct : Nat) : Int), .int .u64 ((y.rk : Nat) : Int), .int .u64 ((y.lf : Nat) : Int), .int .i64 ((y.sz : Nat) : Int), .int .u64 ((y.nx : Nat) : Int), .int .i64 ((y.sz : Nat) : Int), .slice (some ⟨k, 0, none⟩) y.q.length cap, .bool (y.su), .bool (gn)])) 51⟩, ⟨k, Z⟩] w' ∧ (∀ i, i < j → y.q.getD i 0 ≠ n)) y.q.length ⟨fun k_ => ([.int .i64 0, undef, undef, undef, undef, undef, undef, undef, undef, undef, undef, undef, undef, undef, undef, undef, undef, undef, undef, undef, undef, undef, undef, undef, undef, undef, undef, undef, undef, undef, undef, undef, undef, undef, undef, undef, undef, undef, undef, undef, undef, undef, undef, undef] : List Value).getD (k_ - 4) undef, by kernel_rfl, M, fun i hi => absurd hi (Nat.not_lt_zero i)⟩ ?_ ?_
  ·intro j a u0 hj hI
   obtain ⟨v1, rfl, M, hx⟩ := hI
   refine wp_seq <| sR <| rV 4 <| ZE M 34 0 11 <| rV 1 <| ZT 36 ((j : Int) < ((y.q.length : Nat) : Int)) <| nT <| cT <| wp_skip <| au_then <| wp_seq <| wp_block <| sR <| rV 3 <| ZE M 42 0 11 <| rV 1 ?_
   refine pH 44 (.pointer (some ⟨k, j, none⟩)) (run_ix0 47 24 Tryz.underlying47 inz24 _ _ rfl k y.q.length cap (by kernel_rfl) .i64 j (by kernel_rfl) (by omega)) <| pE M 45 k j (.int .u64 ((y.q.getD j 0 : Nat) : Int)) (fun w M => hZ.cell (M.get 1 rfl) (vsU_at y.q j (by omega))) <| rV 1 ?_
   by_cases c1 : ((y.q.getD j 0 : Nat) : Int) = (n : Int)
   ·refine pH 47 (.bool true) (jT (((y.q.getD j 0 : Nat) : Int) = (n : Int)) (c1)) <| nT <| cT <| sq <| wp_ret <| au_block_ret <| au_then_ret <| au_then_ret <| au_block_ret <| au_then_ret ?_
    exact bodyPost_ret (v := .int .i64 9) (results_tmp1 Tryz.results53 _ _ _ (by kernel_rfl)) (by kernel_rfl) ⟨by rw [my_there y.q j hj (by omega) (by omega)], ro_T hT M⟩
   ·refine pH 47 (.bool false) (jF (((y.q.getD j 0 : Nat) : Int) = (n : Int)) (c1)) <| nT <| cF <| wp_skip <| au_block <| au_then <| rg_lit <| rV 1 ?_
    refine pH 38 (.int .i64 ((j + 1 : Nat) : Int)) (fun w => Eq.trans (b := .ok (.value (.int .i64 (IntKind.wrap .i64 ((j : Int) + 1)))) w) (by kernel_rfl) (by rw [wrap64 (by omega) (by omega)]; rfl)) ?_
    refine rV 1 <| nT ?_
    exact ⟨fun k_ => ([v1 4, undef, undef, undef, undef, undef, undef, undef, undef, undef, undef, undef, undef, undef, undef, undef, undef, undef, undef, undef, undef, undef, undef, undef, undef, undef, .int .i64 (j : Int), .pointer (some ⟨d, 10, none⟩), .pointer (some ⟨d, 10, none⟩), .pointer (some ⟨d, 11, none⟩), .slice (some ⟨k, 0, none⟩) y.q.length cap, .int .i64 ((y.q.length : Nat) : Int), .bool true, .int .i64 (j : Int), .int .i64 ((j + 1 : Nat) : Int), .pointer (some ⟨d, 10, none⟩), .pointer (some ⟨d, 10, none⟩), .pointer (some ⟨d, 11, none⟩), .slice (some ⟨k, 0, none⟩) y.q.length cap, .int .i64 (j : Int), .pointer (some ⟨k, j, none⟩), .int .u64 ((y.q.getD j 0 : Nat) : Int), .int .u64 (n : Int), .bool false] : List Value).getD (k_ - 4) undef, by kernel_rfl, M, ex_step hx (by omega)⟩
  ·intro a u0 hI
   obtain ⟨v1, rfl, M, hx⟩ := hI
   refine wp_seq <| sR <| rV 4 <| ZE M 34 0 11 <| rV 1 <| ZF 36 (((y.q.length : Nat) : Int) < ((y.q.length : Nat) : Int)) <| nT <| cF <| wp_exit <| au_then_exit <| au_then_exit <| au_block_exit <| au_then <| sq <| wp_ret ?_
   exact bodyPost_ret (v := .int .i64 0) (results_tmp1 Tryz.results53 _ _ _ (by kernel_rfl)) (by kernel_rfl) ⟨by rw [my_free y.q (by omega) hx], ro_T hT M⟩
theorem sb1 {Z : Obj} {cap : Nat} {l : List Value} (h : SB Z (cap * 1) l) : SB Z cap l := by rwa [Nat.mul_one] at h
theorem e_May {y : TS} {gn : Bool} {d : Nat} {n : Nat} {sv : Value} {Ts : List Blk} (hS : SlV 1 (vsU y.q) y.q.length sv Ts) (hs : 1 ≤ y.sz) (hs4 : y.sz ≤ 4096) (hl : y.q.length < 1000000) (hM : ∀ x ∈ y.q, x < 18446744073709551616) (w : World) (hL : Laid w) (hT : There w (⟨d, .cells (av 14 (ls [.string y.sd, .string y.rv, .bool (y.fi), .int .u64 ((y.mt : Nat) : Int), .int .u64 ((y.rc : Nat) : Int), .int .u64 ((y.ct : Nat) : Int), .int .u64 ((y.rk : Nat) : Int), .int .u64 ((y.lf : Nat) : Int), .int .i64 ((y.sz : Nat) : Int), .int .u64 ((y.nx : Nat) : Int), .int .i64 ((y.sz : Nat) : Int), sv, .bool (y.su), .bool (gn)])) 51⟩ :: Ts)) : Cs 53 #[.pointer (some ⟨d, 10, none⟩), .int .u64 (n : Int)] w (.int .i64 (my y.sz y.q n)) := by
 rcases hS.ex with ⟨h0, rfl, rfl⟩ | ⟨g, cap, Z, h0, rfl, hle, hZ, rfl⟩
 ·exact d_May0 (List.length_eq_zero_iff.1 h0) w hL hT
 ·exact d_May1 (sb1 hZ) h0 hl hs hs4 hM w hL hT
theorem infoU : InfoK Tryz.prog 24 1 (.int .u64 0) := infoK (b := 8) (by kernel_rfl) (by kernel_rfl) (by kernel_rfl) (by decide)
theorem e_Mark {y : TS} {gn : Bool} {d : Nat} {n : Nat} {sv : Value} {Ts : List Blk} (hS : SlV 1 (vsU y.q) y.q.length sv Ts) (hs : 1 ≤ y.sz) (hs4 : y.sz ≤ 4096) (hl : y.q.length < 1000000) (hM : ∀ x ∈ y.q, x < 18446744073709551616) (w : World) (hL : Laid w)  (hT : There w (⟨d, .cells (av 14 (ls [.string y.sd, .string y.rv, .bool (y.fi), .int .u64 ((y.mt : Nat) : Int), .int .u64 ((y.rc : Nat) : Int), .int .u64 ((y.ct : Nat) : Int), .int .u64 ((y.rk : Nat) : Int), .int .u64 ((y.lf : Nat) : Int), .int .i64 ((y.sz : Nat) : Int), .int .u64 ((y.nx : Nat) : Int), .int .i64 ((y.sz : Nat) : Int), sv, .bool (y.su), .bool (gn)])) 51⟩ :: Ts)) : Calls Tryz.prog 55 #[.pointer (some ⟨d, 10, none⟩), .int .u64 (n : Int)] w fun r w' => ∃ x : Value × List Blk, r = .returned (.int .i64 (my y.sz y.q n)) ∧ SlV 1 (vsU (mk y.sz y.q n)) (mk y.sz y.q n).length x.1 x.2 ∧ OkT w w' (⟨d, .cells (av 14 (ls [.string y.sd, .string y.rv, .bool (y.fi), .int .u64 ((y.mt : Nat) : Int), .int .u64 ((y.rc : Nat) : Int), .int .u64 ((y.ct : Nat) : Int), .int .u64 ((y.rk : Nat) : Int), .int .u64 ((y.lf : Nat) : Int), .int .i64 ((y.sz : Nat) : Int), .int .u64 ((y.nx : Nat) : Int), .int .i64 ((y.sz : Nat) : Int), sv, .bool (y.su), .bool (gn)])) 51⟩ :: Ts) (⟨d, .cells (av 14 (ls [.string y.sd, .string y.rv, .bool (y.fi), .int .u64 ((y.mt : Nat) : Int), .int .u64 ((y.rc : Nat) : Int), .int .u64 ((y.ct : Nat) : Int), .int .u64 ((y.rk : Nat) : Int), .int .u64 ((y.lf : Nat) : Int), .int .i64 ((y.sz : Nat) : Int), .int .u64 ((y.nx : Nat) : Int), .int .i64 ((y.sz : Nat) : Int), x.1, .bool (y.su), .bool (gn)])) 51⟩ :: x.2) := by
 go_enter Tryz.func55, Tryz.ntmps55
 have M : Mem ⟨w, (⟨d, .cells (av 14 (ls [.string y.sd, .string y.rv, .bool (y.fi), .int .u64 ((y.mt : Nat) : Int), .int .u64 ((y.rc : Nat) : Int), .int .u64 ((y.ct : Nat) : Int), .int .u64 ((y.rk : Nat) : Int), .int .u64 ((y.lf : Nat) : Int), .int .i64 ((y.sz : Nat) : Int), .int .u64 ((y.nx : Nat) : Int), .int .i64 ((y.sz : Nat) : Int), sv, .bool (y.su), .bool (gn)])) 51⟩ :: Ts).map Blk.g⟩ (⟨d, .cells (av 14 (ls [.string y.sd, .string y.rv, .bool (y.fi), .int .u64 ((y.mt : Nat) : Int), .int .u64 ((y.rc : Nat) : Int), .int .u64 ((y.ct : Nat) : Int), .int .u64 ((y.rk : Nat) : Int), .int .u64 ((y.lf : Nat) : Int), .int .i64 ((y.sz : Nat) : Int), .int .u64 ((y.nx : Nat) : Int), .int .i64 ((y.sz : Nat) : Int), sv, .bool (y.su), .bool (gn)])) 51⟩ :: Ts) w := Mem.startT hL hT
 refine sq <| sR <| rV 2 <| pC M 8 53 #[.pointer (some ⟨d, 10, none⟩), .int .u64 (n : Int)] (.int .i64 (my y.sz y.q n)) (fun w M => e_May hS hs hs4 hl hM w M.laid (M.there (List.Sublist.refl _))) fun u1 M => rV 1 <| nT <| wp_seq <| sR <| rV 1 ?_
 by_cases c0 : (my y.sz y.q n) = 0
 ·refine pH 10 (.bool true) (jT ((my y.sz y.q n) = 0) (c0)) <| nT <| cT <| rg_lit <| rV 4 <| ZE M 15 0 11 <| rV 1 <| ZM M 17 (fun g1 => .slice (some ⟨g1, 0, none⟩) 1 1) (.cells (av 1 (ls [.int .u64 (n : Int)])) 24) fun g1 u2 M => ?_
  replace M := M.front
  replace M : Mem ⟨w, (⟨d, .cells (av 14 (ls [.string y.sd, .string y.rv, .bool (y.fi), .int .u64 ((y.mt : Nat) : Int), .int .u64 ((y.rc : Nat) : Int), .int .u64 ((y.ct : Nat) : Int), .int .u64 ((y.rk : Nat) : Int), .int .u64 ((y.lf : Nat) : Int), .int .i64 ((y.sz : Nat) : Int), .int .u64 ((y.nx : Nat) : Int), .int .i64 ((y.sz : Nat) : Int), sv, .bool (y.su), .bool (gn)])) 51⟩ :: Ts).map Blk.g⟩ (⟨g1, .cells (av 1 (ls [.int .u64 (n : Int)])) 24⟩ :: ⟨d, .cells (av 14 (ls [.string y.sd, .string y.rv, .bool (y.fi), .int .u64 ((y.mt : Nat) : Int), .int .u64 ((y.rc : Nat) : Int), .int .u64 ((y.ct : Nat) : Int), .int .u64 ((y.rk : Nat) : Int), .int .u64 ((y.lf : Nat) : Int), .int .i64 ((y.sz : Nat) : Int), .int .u64 ((y.nx : Nat) : Int), .int .i64 ((y.sz : Nat) : Int), sv, .bool (y.su), .bool (gn)])) 51⟩ :: Ts) u2 := M
  refine pl_appS M (want_no rfl) (some 18) rfl 47 47 24 1 (.int .u64 0) Tryz.underlying47 infoU rfl [⟨g1, .cells (av 1 (ls [.int .u64 (n : Int)])) 24⟩, ⟨d, .cells (av 14 (ls [.string y.sd, .string y.rv, .bool (y.fi), .int .u64 ((y.mt : Nat) : Int), .int .u64 ((y.rc : Nat) : Int), .int .u64 ((y.ct : Nat) : Int), .int .u64 ((y.rk : Nat) : Int), .int .u64 ((y.lf : Nat) : Int), .int .i64 ((y.sz : Nat) : Int), .int .u64 ((y.nx : Nat) : Int), .int .i64 ((y.sz : Nat) : Int), sv, .bool (y.su), .bool (gn)])) 51⟩] Ts [] (by simp only [List.append_assoc, List.cons_append, List.nil_append, List.append_nil]) sv y.q.length (vsU y.q) hS (by omega) 0 g1 24 (ls [.int .u64 (n : Int)]) rfl (one_ls _ rfl) (fun _ => by kernel_rfl) ?_
  intro sv2 T2 u3 hS2 M
  replace M : Mem ⟨w, (⟨d, .cells (av 14 (ls [.string y.sd, .string y.rv, .bool (y.fi), .int .u64 ((y.mt : Nat) : Int), .int .u64 ((y.rc : Nat) : Int), .int .u64 ((y.ct : Nat) : Int), .int .u64 ((y.rk : Nat) : Int), .int .u64 ((y.lf : Nat) : Int), .int .i64 ((y.sz : Nat) : Int), .int .u64 ((y.nx : Nat) : Int), .int .i64 ((y.sz : Nat) : Int), sv, .bool (y.su), .bool (gn)])) 51⟩ :: Ts).map Blk.g⟩ (⟨g1, .cells (av 1 (ls [.int .u64 (n : Int)])) 24⟩ :: ⟨d, .cells (av 14 (ls [.string y.sd, .string y.rv, .bool (y.fi), .int .u64 ((y.mt : Nat) : Int), .int .u64 ((y.rc : Nat) : Int), .int .u64 ((y.ct : Nat) : Int), .int .u64 ((y.rk : Nat) : Int), .int .u64 ((y.lf : Nat) : Int), .int .i64 ((y.sz : Nat) : Int), .int .u64 ((y.nx : Nat) : Int), .int .i64 ((y.sz : Nat) : Int), sv, .bool (y.su), .bool (gn)])) 51⟩ :: T2) u3 := by simpa only [List.append_assoc, List.cons_append, List.nil_append, List.append_nil] using M
  refine rV 2 ?_
  refine (pl_put1 M (want_no rfl) rfl 47 _ _ rfl 1 d 11 (by kernel_rfl) 14 51 (ls [.string y.sd, .string y.rv, .bool (y.fi), .int .u64 ((y.mt : Nat) : Int), .int .u64 ((y.rc : Nat) : Int), .int .u64 ((y.ct : Nat) : Int), .int .u64 ((y.rk : Nat) : Int), .int .u64 ((y.lf : Nat) : Int), .int .i64 ((y.sz : Nat) : Int), .int .u64 ((y.nx : Nat) : Int), .int .i64 ((y.sz : Nat) : Int), sv, .bool (y.su), .bool (gn)]) rfl (sv2) (ls [.string y.sd, .string y.rv, .bool (y.fi), .int .u64 ((y.mt : Nat) : Int), .int .u64 ((y.rc : Nat) : Int), .int .u64 ((y.ct : Nat) : Int), .int .u64 ((y.rk : Nat) : Int), .int .u64 ((y.lf : Nat) : Int), .int .i64 ((y.sz : Nat) : Int), .int .u64 ((y.nx : Nat) : Int), .int .i64 ((y.sz : Nat) : Int), sv2, .bool (y.su), .bool (gn)]) (by kernel_rfl) inz47 (by decide) (slv_one hS2) (slv_cells hS2) (put_ls _ 11 _ _ rfl) ?_)
  intro u4 M
  replace M : Mem ⟨w, (⟨d, .cells (av 14 (ls [.string y.sd, .string y.rv, .bool (y.fi), .int .u64 ((y.mt : Nat) : Int), .int .u64 ((y.rc : Nat) : Int), .int .u64 ((y.ct : Nat) : Int), .int .u64 ((y.rk : Nat) : Int), .int .u64 ((y.lf : Nat) : Int), .int .i64 ((y.sz : Nat) : Int), .int .u64 ((y.nx : Nat) : Int), .int .i64 ((y.sz : Nat) : Int), sv, .bool (y.su), .bool (gn)])) 51⟩ :: Ts).map Blk.g⟩ (⟨g1, .cells (av 1 (ls [.int .u64 (n : Int)])) 24⟩ :: ⟨d, .cells (av 14 (ls [.string y.sd, .string y.rv, .bool (y.fi), .int .u64 ((y.mt : Nat) : Int), .int .u64 ((y.rc : Nat) : Int), .int .u64 ((y.ct : Nat) : Int), .int .u64 ((y.rk : Nat) : Int), .int .u64 ((y.lf : Nat) : Int), .int .i64 ((y.sz : Nat) : Int), .int .u64 ((y.nx : Nat) : Int), .int .i64 ((y.sz : Nat) : Int), sv2, .bool (y.su), .bool (gn)])) 51⟩ :: T2) u4 := M
  refine nT <| sq <| wp_ret ?_
  exact bodyPost_ret (v := .int .i64 (my y.sz y.q n)) (results_tmp1 Tryz.results55 _ _ _ (by kernel_rfl)) (by kernel_rfl) ⟨(sv2, T2), by rw [c0], by rw [mk_yes c0, vsU_app, List.length_append]; exact hS2, (M.drop (.cons _ (.cons_cons _ (List.Sublist.refl _)))).okT0⟩
 ·refine pH 10 (.bool false) (jF ((my y.sz y.q n) = 0) (c0)) <| nT <| cF <| wp_skip <| au_then <| sq <| wp_ret ?_
  exact bodyPost_ret (v := .int .i64 (my y.sz y.q n)) (results_tmp1 Tryz.results55 _ _ _ (by kernel_rfl)) (by kernel_rfl) ⟨(sv, Ts), rfl, by rw [mk_no c0]; exact hS, M.okT0⟩
open Go.RowKit
def dov (y : TS) (gn : Bool) (n : Nat) : Bool := gn || decide (y.lf ≤ n - y.mt)
def daF (y : TS) (gn : Bool) (n : Nat) : Int := if dov y gn n = true then 180 else if y.ct ≤ y.nx then 180 else if y.su = true then 0 else 3
def daN (y : TS) (gn : Bool) (n : Nat) : Nat := if daF y gn n = 0 then y.nx else 0
def daC (y : TS) (gn : Bool) (n : Nat) (s : Yb) : ByteArray := if daF y gn n = 0 then sealS y.sd (nS (y.nx : Int)) ⟨#[]⟩ s else ⟨#[]⟩
def daX (y : TS) (gn : Bool) (n : Nat) : Nat := if daF y gn n = 0 then y.nx + 1 else y.nx
def daO (y : TS) (gn : Bool) (n i : Nat) : Int := if dov y gn n = true then 180 else if y.ct ≤ i then 180 else my y.sz y.q i
def mdB (rc ct rk lf : Nat) (z : Int) : Bool := mbB rc ct rk lf && decide (1 ≤ z ∧ z ≤ 4096)
theorem wrapU_pre (a : Nat) (h : a + 1 < 18446744073709551616) : IntKind.wrap .u64 (((a + 1 : Nat) : Int) - 1) = ((a : Nat) : Int) := by
 rw [IntKind.wrap_u64]
 omega
theorem d_AOpen (rv : Yb) (i : Nat) (c : Yb) (hr : rv.size = 32) (hc : c.size ≤ 5000) (w : World) (hL : Laid w) : Cs 54 #[.string rv, .string (nS (i : Int)), .string ⟨#[]⟩, .string c] w (.tuple #[.string (opC rv i c), .int .i64 (opZ rv i c)]) := by
 have hm : rv.size = 32 ∧ (nS (i : Int)).size = 12 := ⟨hr, nS_size _⟩
 have hz : (⟨#[]⟩ : Yb).size + c.size ≤ 5000 := by show 0 + c.size ≤ 5000; omega
 unfold opC
 by_cases h : c.size < 16
 ·have e0 : sf rv (nS (i : Int)) ⟨#[]⟩ c 16 = 100 := by
   unfold sf
   rw [if_neg (by simp [hr, nS_size]), if_neg (by simp; omega), if_pos h]
  have e : opZ rv i c = 100 := by unfold opZ; rw [e0, if_neg (by decide)]
  rw [if_neg (by rw [e]; decide), e]
  exact d_OpenC _ _ _ _ hm hz h w hL
 ·have e0 : sf rv (nS (i : Int)) ⟨#[]⟩ c 16 = 0 := sf_ok hm (Nat.zero_le _) (by omega) (by omega)
  by_cases h2 : tgX rv (nS (i : Int)) ⟨#[]⟩ c = c.extract (c.size - 16) c.size
  ·have e : opZ rv i c = 0 := by unfold opZ; rw [if_pos e0, if_pos h2]
   rw [if_pos e, e]
   exact d_OpenA _ _ _ _ hm hz h h2 w hL
  ·have e : opZ rv i c = 100 := by unfold opZ; rw [if_pos e0, if_neg h2]
   rw [if_neg (by rw [e]; decide), e]
   exact d_OpenB _ _ _ _ hm hz h h2 w hL
theorem c_dMay {rc ct rk lf : Nat} {z : Int} (w : World) (hL : Laid w)  : Cs 26 #[.agg (av 5 (ls [.int .u64 (rc : Int), .int .u64 (ct : Int), .int .u64 (rk : Int), .int .u64 (lf : Int), .int .i64 z]))] w (.bool (mdB rc ct rk lf z)) := by
 go_enter Tryz.func26, Tryz.ntmps26
 have M := Mem.start hL
 refine sR <| pN M 1 (.cells (av 5 (ls [.int .u64 (rc : Int), .int .u64 (ct : Int), .int .u64 (rk : Int), .int .u64 (lf : Int), .int .i64 z])) 26) fun g1 u1 M => ?_
 replace M : Mem ⟨w, []⟩ [⟨g1, .cells (av 5 (ls [.int .u64 (rc : Int), .int .u64 (ct : Int), .int .u64 (rk : Int), .int .u64 (lf : Int), .int .i64 z])) 26⟩] u1 := M
 refine rV 1 <| nT <| sR <| rV 1 <| ZE M 4 0 0 ?_
 by_cases c0 : (rc : Int) < 1
 ·refine ZF 5 (1 ≤ (rc : Int)) <| rV 40 <| nT <| wp_ret ?_
  have e0 : mdB rc ct rk lf z = false := by unfold mdB mbB; rw [← Bool.decide_and]; exact decide_eq_false (by omega)
  exact bodyPost_ret (v := .bool false) (results_tmp1 Tryz.results26 _ _ _ (by kernel_rfl)) (by kernel_rfl) ⟨by rw [e0], below_grown M.old⟩
 ·refine ZT 5 (1 ≤ (rc : Int)) <| rV 2 <| pl_cell M (want_on 3 true rfl 6 rfl (by kernel_rfl)) (some 8) rfl 24 _ rfl g1 0 (by kernel_rfl) (.int .u64 (rc : Int)) (fun _ => by kernel_rfl) (fun w M => M.cell 0 rfl (by decide) rfl) <| rV 1 <| pl_cell M (want_on 3 true rfl 6 rfl (by kernel_rfl)) (some 10) rfl 24 _ rfl g1 1 (by kernel_rfl) (.int .u64 (ct : Int)) (fun _ => by kernel_rfl) (fun w M => M.cell 0 rfl (by decide) rfl) ?_
  by_cases c1 : (ct : Int) < (rc : Int)
  ·refine pl_val (want_on 3 true rfl 6 rfl (by kernel_rfl)) (some 11) rfl (.bool false) (fun w => Eq.trans (b := .ok (.value (.bool (decide ((rc : Int) ≤ (ct : Int))))) w) (by kernel_rfl) (by rw [decide_eq_false (by omega)])) <| rV 34 <| nT <| wp_ret ?_
   have e0 : mdB rc ct rk lf z = false := by unfold mdB mbB; rw [← Bool.decide_and]; exact decide_eq_false (by omega)
   exact bodyPost_ret (v := .bool false) (results_tmp1 Tryz.results26 _ _ _ (by kernel_rfl)) (by kernel_rfl) ⟨by rw [e0], below_grown M.old⟩
  ·refine pl_val (want_on 3 true rfl 6 rfl (by kernel_rfl)) (some 11) rfl (.bool true) (fun w => Eq.trans (b := .ok (.value (.bool (decide ((rc : Int) ≤ (ct : Int))))) w) (by kernel_rfl) (by rw [decide_eq_true (by omega)])) <| rV 3 <| pl_cell M (want_on 10 true rfl 13 rfl (by kernel_rfl)) (some 15) rfl 24 _ rfl g1 1 (by kernel_rfl) (.int .u64 (ct : Int)) (fun _ => by kernel_rfl) (fun w M => M.cell 0 rfl (by decide) rfl) ?_
   by_cases c2 : 1152921504606846976 < (ct : Int)
   ·refine pl_val (want_on 10 true rfl 13 rfl (by kernel_rfl)) (some 16) rfl (.bool false) (fun w => Eq.trans (b := .ok (.value (.bool (decide ((ct : Int) ≤ 1152921504606846976)))) w) (by kernel_rfl) (by rw [decide_eq_false (by omega)])) <| rV 29 <| nT <| wp_ret ?_
    have e0 : mdB rc ct rk lf z = false := by unfold mdB mbB; rw [← Bool.decide_and]; exact decide_eq_false (by omega)
    exact bodyPost_ret (v := .bool false) (results_tmp1 Tryz.results26 _ _ _ (by kernel_rfl)) (by kernel_rfl) ⟨by rw [e0], below_grown M.old⟩
   ·refine pl_val (want_on 10 true rfl 13 rfl (by kernel_rfl)) (some 16) rfl (.bool true) (fun w => Eq.trans (b := .ok (.value (.bool (decide ((ct : Int) ≤ 1152921504606846976)))) w) (by kernel_rfl) (by rw [decide_eq_true (by omega)])) <| rV 3 <| pl_cell M (want_on 15 true rfl 18 rfl (by kernel_rfl)) (some 20) rfl 24 _ rfl g1 2 (by kernel_rfl) (.int .u64 (rk : Int)) (fun _ => by kernel_rfl) (fun w M => M.cell 0 rfl (by decide) rfl) ?_
    by_cases c3 : (rk : Int) < 1
    ·refine pl_val (want_on 15 true rfl 18 rfl (by kernel_rfl)) (some 21) rfl (.bool false) (fun w => Eq.trans (b := .ok (.value (.bool (decide (1 ≤ (rk : Int))))) w) (by kernel_rfl) (by rw [decide_eq_false (by omega)])) <| rV 24 <| nT <| wp_ret ?_
     have e0 : mdB rc ct rk lf z = false := by unfold mdB mbB; rw [← Bool.decide_and]; exact decide_eq_false (by omega)
     exact bodyPost_ret (v := .bool false) (results_tmp1 Tryz.results26 _ _ _ (by kernel_rfl)) (by kernel_rfl) ⟨by rw [e0], below_grown M.old⟩
    ·refine pl_val (want_on 15 true rfl 18 rfl (by kernel_rfl)) (some 21) rfl (.bool true) (fun w => Eq.trans (b := .ok (.value (.bool (decide (1 ≤ (rk : Int))))) w) (by kernel_rfl) (by rw [decide_eq_true (by omega)])) <| rV 3 <| pl_cell M (want_on 20 true rfl 23 rfl (by kernel_rfl)) (some 25) rfl 24 _ rfl g1 2 (by kernel_rfl) (.int .u64 (rk : Int)) (fun _ => by kernel_rfl) (fun w M => M.cell 0 rfl (by decide) rfl) <| rV 1 <| pl_cell M (want_on 20 true rfl 23 rfl (by kernel_rfl)) (some 27) rfl 24 _ rfl g1 3 (by kernel_rfl) (.int .u64 (lf : Int)) (fun _ => by kernel_rfl) (fun w M => M.cell 0 rfl (by decide) rfl) ?_
     by_cases c4 : (lf : Int) < (rk : Int)
     ·refine pl_val (want_on 20 true rfl 23 rfl (by kernel_rfl)) (some 28) rfl (.bool false) (fun w => Eq.trans (b := .ok (.value (.bool (decide ((rk : Int) ≤ (lf : Int))))) w) (by kernel_rfl) (by rw [decide_eq_false (by omega)])) <| rV 17 <| nT <| wp_ret ?_
      have e0 : mdB rc ct rk lf z = false := by unfold mdB mbB; rw [← Bool.decide_and]; exact decide_eq_false (by omega)
      exact bodyPost_ret (v := .bool false) (results_tmp1 Tryz.results26 _ _ _ (by kernel_rfl)) (by kernel_rfl) ⟨by rw [e0], below_grown M.old⟩
     ·refine pl_val (want_on 20 true rfl 23 rfl (by kernel_rfl)) (some 28) rfl (.bool true) (fun w => Eq.trans (b := .ok (.value (.bool (decide ((rk : Int) ≤ (lf : Int))))) w) (by kernel_rfl) (by rw [decide_eq_true (by omega)])) <| rV 3 <| pl_cell M (want_on 27 true rfl 30 rfl (by kernel_rfl)) (some 32) rfl 24 _ rfl g1 3 (by kernel_rfl) (.int .u64 (lf : Int)) (fun _ => by kernel_rfl) (fun w M => M.cell 0 rfl (by decide) rfl) ?_
      by_cases c5 : 1152921504606846976 < (lf : Int)
      ·refine pl_val (want_on 27 true rfl 30 rfl (by kernel_rfl)) (some 33) rfl (.bool false) (fun w => Eq.trans (b := .ok (.value (.bool (decide ((lf : Int) ≤ 1152921504606846976)))) w) (by kernel_rfl) (by rw [decide_eq_false (by omega)])) <| rV 12 <| nT <| wp_ret ?_
       have e0 : mdB rc ct rk lf z = false := by unfold mdB mbB; rw [← Bool.decide_and]; exact decide_eq_false (by omega)
       exact bodyPost_ret (v := .bool false) (results_tmp1 Tryz.results26 _ _ _ (by kernel_rfl)) (by kernel_rfl) ⟨by rw [e0], below_grown M.old⟩
      ·refine pl_val (want_on 27 true rfl 30 rfl (by kernel_rfl)) (some 33) rfl (.bool true) (fun w => Eq.trans (b := .ok (.value (.bool (decide ((lf : Int) ≤ 1152921504606846976)))) w) (by kernel_rfl) (by rw [decide_eq_true (by omega)])) <| rV 3 <| pl_cell M (want_on 32 true rfl 35 rfl (by kernel_rfl)) (some 37) rfl 3 _ rfl g1 4 (by kernel_rfl) (.int .i64 z) (fun _ => by kernel_rfl) (fun w M => M.cell 0 rfl (by decide) rfl) ?_
       by_cases c6 : z < 1
       ·refine pl_val (want_on 32 true rfl 35 rfl (by kernel_rfl)) (some 38) rfl (.bool false) (fun w => Eq.trans (b := .ok (.value (.bool (decide (1 ≤ z)))) w) (by kernel_rfl) (by rw [decide_eq_false (by omega)])) <| rV 7 <| nT <| wp_ret ?_
        have e0 : mdB rc ct rk lf z = false := by unfold mdB mbB; rw [← Bool.decide_and]; exact decide_eq_false (by omega)
        exact bodyPost_ret (v := .bool false) (results_tmp1 Tryz.results26 _ _ _ (by kernel_rfl)) (by kernel_rfl) ⟨by rw [e0], below_grown M.old⟩
       ·refine pl_val (want_on 32 true rfl 35 rfl (by kernel_rfl)) (some 38) rfl (.bool true) (fun w => Eq.trans (b := .ok (.value (.bool (decide (1 ≤ z)))) w) (by kernel_rfl) (by rw [decide_eq_true (by omega)])) <| rV 3 <| pl_cell M (want_on 37 true rfl 40 rfl (by kernel_rfl)) (some 42) rfl 3 _ rfl g1 4 (by kernel_rfl) (.int .i64 z) (fun _ => by kernel_rfl) (fun w M => M.cell 0 rfl (by decide) rfl) ?_
        by_cases c7 : 4096 < z
        ·refine pl_val (want_on 37 true rfl 40 rfl (by kernel_rfl)) (some 43) rfl (.bool false) (fun w => Eq.trans (b := .ok (.value (.bool (decide (z ≤ 4096)))) w) (by kernel_rfl) (by rw [decide_eq_false (by omega)])) <| rV 2 <| nT <| wp_ret ?_
         have e0 : mdB rc ct rk lf z = false := by unfold mdB mbB; rw [← Bool.decide_and]; exact decide_eq_false (by omega)
         exact bodyPost_ret (v := .bool false) (results_tmp1 Tryz.results26 _ _ _ (by kernel_rfl)) (by kernel_rfl) ⟨by rw [e0], below_grown M.old⟩
        ·refine pl_val (want_on 37 true rfl 40 rfl (by kernel_rfl)) (some 43) rfl (.bool true) (fun w => Eq.trans (b := .ok (.value (.bool (decide (z ≤ 4096)))) w) (by kernel_rfl) (by rw [decide_eq_true (by omega)])) <| rV 2 <| nT <| wp_ret ?_
         have e0 : mdB rc ct rk lf z = true := by unfold mdB mbB; rw [decide_eq_true (by omega), decide_eq_true (by omega)]; rfl
         exact bodyPost_ret (v := .bool true) (results_tmp1 Tryz.results26 _ _ _ (by kernel_rfl)) (by kernel_rfl) ⟨by rw [e0], below_grown M.old⟩
theorem d_NewE {y0 y1 sd rv y4 : Yb} {fi : Bool} {mt rc ct rk lf : Nat} {z : Int} (hz : sd.size = 32 → rv.size = 32 → ¬ mdB rc ct rk lf z = true) (w : World) (hL : Laid w)  : Cs 8 #[.agg (av 5 (ls [.string y0, .string y1, .string sd, .string rv, .string y4])), .bool (fi), .int .u64 (mt : Int), .agg (av 5 (ls [.int .u64 (rc : Int), .int .u64 (ct : Int), .int .u64 (rk : Int), .int .u64 (lf : Int), .int .i64 z]))] w (.tuple #[.pointer none, .int .i64 2]) := by
 go_enter Tryz.func8, Tryz.ntmps8
 have M := Mem.start hL
 refine sR <| pN M 4 (.cells (av 5 (ls [.string y0, .string y1, .string sd, .string rv, .string y4])) 23) fun g1 u1 M => ?_
 replace M : Mem ⟨w, []⟩ [⟨g1, .cells (av 5 (ls [.string y0, .string y1, .string sd, .string rv, .string y4])) 23⟩] u1 := M
 refine pN M 7 (.cells (av 5 (ls [.int .u64 (rc : Int), .int .u64 (ct : Int), .int .u64 (rk : Int), .int .u64 (lf : Int), .int .i64 z])) 26) fun g2 u2 M => ?_
 replace M : Mem ⟨w, []⟩ [⟨g1, .cells (av 5 (ls [.string y0, .string y1, .string sd, .string rv, .string y4])) 23⟩, ⟨g2, .cells (av 5 (ls [.int .u64 (rc : Int), .int .u64 (ct : Int), .int .u64 (rk : Int), .int .u64 (lf : Int), .int .i64 z])) 26⟩] u2 := M
 refine rV 2 <| nT <| wp_seq <| sR <| rV 1 <| ZE M 11 0 2 <| rV 1 ?_
 by_cases c0 : (sd.size : Int) = 32
 ·refine pH 13 (.bool false) (jD ((sd.size : Int) = 32) (c0)) <| rV 2 <| pl_cell M (want_on 4 false rfl 14 rfl (by kernel_rfl)) (some 16) rfl 9 _ rfl g1 3 (by kernel_rfl) (.string rv) (fun _ => by kernel_rfl) (fun w M => M.cell 0 rfl (by decide) rfl) <| rV 1 ?_
  by_cases c1 : (rv.size : Int) = 32
  ·refine pl_val (want_on 4 false rfl 14 rfl (by kernel_rfl)) (some 18) rfl (.bool false) (fun w => Eq.trans (b := .ok (.value (.bool (!(decide ((rv.size : Int) = 32))))) w) (by kernel_rfl) (by rw [decide_eq_true (c1)]; rfl)) ?_
   refine rV 2 <| pl_load M (want_on 10 false rfl 20 rfl (by kernel_rfl)) (some 21) rfl 26 _ rfl 1 g2 0 (by kernel_rfl) 5 26 (ls [.int .u64 (rc : Int), .int .u64 (ct : Int), .int .u64 (rk : Int), .int .u64 (lf : Int), .int .i64 z]) rfl 5 (ls [.int .u64 (rc : Int), .int .u64 (ct : Int), .int .u64 (rk : Int), .int .u64 (lf : Int), .int .i64 z]) (fun j _ => by rw [Nat.zero_add]) (by decide) _ Tryz.underlying26 rfl inz26 ?_
   rcases Bool.eq_false_or_eq_true (mdB rc ct rk lf z) with c2 | c2
   ·exfalso; exact hz (by omega) (by omega) c2
   ·refine pl_call M (want_on 10 false rfl 20 rfl (by kernel_rfl)) (some 22) rfl 26 #[.agg (av 5 (ls [.int .u64 (rc : Int), .int .u64 (ct : Int), .int .u64 (rk : Int), .int .u64 (lf : Int), .int .i64 z]))] (.bool false) (fun _ => by kernel_rfl) (fun w M => call_val (c_dMay w M.laid) (congrArg Value.bool c2)) fun u3 M => rV 2 <| nT <| cT <| sq <| wp_ret <| au_then_ret ?_
    exact b1 M
  ·refine pl_val (want_on 4 false rfl 14 rfl (by kernel_rfl)) (some 18) rfl (.bool true) (fun w => Eq.trans (b := .ok (.value (.bool (!(decide ((rv.size : Int) = 32))))) w) (by kernel_rfl) (by rw [decide_eq_false (c1)]; rfl)) ?_
   refine rV 6 <| nT <| cT <| sq <| wp_ret <| au_then_ret ?_
   exact b1 M
 ·refine pH 13 (.bool true) (jU ((sd.size : Int) = 32) (c0)) <| rV 11 <| nT <| cT <| sq <| wp_ret <| au_then_ret ?_
  exact b1 M
structure IsD (d : Nat) (y : TS) (gn : Bool) (D : List Blk) : Prop where
 out : ∃ sv Ts, D = ⟨d, .cells (av 14 (ls [.string y.sd, .string y.rv, .bool (y.fi), .int .u64 ((y.mt : Nat) : Int), .int .u64 ((y.rc : Nat) : Int), .int .u64 ((y.ct : Nat) : Int), .int .u64 ((y.rk : Nat) : Int), .int .u64 ((y.lf : Nat) : Int), .int .i64 ((y.sz : Nat) : Int), .int .u64 ((y.nx : Nat) : Int), .int .i64 ((y.sz : Nat) : Int), sv, .bool (y.su), .bool (gn)])) 51⟩ :: Ts ∧ SlV 1 (vsU y.q) y.q.length sv Ts
theorem d_New {y0 y1 sd rv y4 : Yb} {fi : Bool} {mt rc ct rk lf : Nat} {s : Nat} (h1 : sd.size = 32) (h2 : rv.size = 32) (h3 : mdB rc ct rk lf (s : Int) = true) (w : World) (hL : Laid w) : Calls Tryz.prog 8 #[.agg (av 5 (ls [.string y0, .string y1, .string sd, .string rv, .string y4])), .bool (fi), .int .u64 (mt : Int), .agg (av 5 (ls [.int .u64 (rc : Int), .int .u64 (ct : Int), .int .u64 (rk : Int), .int .u64 (lf : Int), .int .i64 (s : Int)]))] w fun r w' => ∃ x : Nat × List Blk, r = .returned (.tuple #[.pointer (some ⟨x.1, 0, none⟩), .int .i64 0]) ∧ IsD x.1 ⟨rc, ct, rk, lf, s, 0, mt, sd, rv, fi, fi, []⟩ false x.2 ∧ OkT w w' [] x.2 := by
 go_enter Tryz.func8, Tryz.ntmps8
 have M := Mem.start hL
 refine sR <| pN M 4 (.cells (av 5 (ls [.string y0, .string y1, .string sd, .string rv, .string y4])) 23) fun g1 u1 M => ?_
 replace M : Mem ⟨w, []⟩ [⟨g1, .cells (av 5 (ls [.string y0, .string y1, .string sd, .string rv, .string y4])) 23⟩] u1 := M
 refine pN M 7 (.cells (av 5 (ls [.int .u64 (rc : Int), .int .u64 (ct : Int), .int .u64 (rk : Int), .int .u64 (lf : Int), .int .i64 (s : Int)])) 26) fun g2 u2 M => ?_
 replace M : Mem ⟨w, []⟩ [⟨g1, .cells (av 5 (ls [.string y0, .string y1, .string sd, .string rv, .string y4])) 23⟩, ⟨g2, .cells (av 5 (ls [.int .u64 (rc : Int), .int .u64 (ct : Int), .int .u64 (rk : Int), .int .u64 (lf : Int), .int .i64 (s : Int)])) 26⟩] u2 := M
 refine rV 2 <| nT <| wp_seq <| sR <| rV 1 <| ZE M 11 0 2 <| rV 1 ?_
 by_cases c0 : (sd.size : Int) = 32
 ·refine pH 13 (.bool false) (jD ((sd.size : Int) = 32) (c0)) <| rV 2 <| pl_cell M (want_on 4 false rfl 14 rfl (by kernel_rfl)) (some 16) rfl 9 _ rfl g1 3 (by kernel_rfl) (.string rv) (fun _ => by kernel_rfl) (fun w M => M.cell 0 rfl (by decide) rfl) <| rV 1 ?_
  by_cases c1 : (rv.size : Int) = 32
  ·refine pl_val (want_on 4 false rfl 14 rfl (by kernel_rfl)) (some 18) rfl (.bool false) (fun w => Eq.trans (b := .ok (.value (.bool (!(decide ((rv.size : Int) = 32))))) w) (by kernel_rfl) (by rw [decide_eq_true (c1)]; rfl)) ?_
   refine rV 2 <| pl_load M (want_on 10 false rfl 20 rfl (by kernel_rfl)) (some 21) rfl 26 _ rfl 1 g2 0 (by kernel_rfl) 5 26 (ls [.int .u64 (rc : Int), .int .u64 (ct : Int), .int .u64 (rk : Int), .int .u64 (lf : Int), .int .i64 (s : Int)]) rfl 5 (ls [.int .u64 (rc : Int), .int .u64 (ct : Int), .int .u64 (rk : Int), .int .u64 (lf : Int), .int .i64 (s : Int)]) (fun j _ => by rw [Nat.zero_add]) (by decide) _ Tryz.underlying26 rfl inz26 <| pl_call M (want_on 10 false rfl 20 rfl (by kernel_rfl)) (some 22) rfl 26 #[.agg (av 5 (ls [.int .u64 (rc : Int), .int .u64 (ct : Int), .int .u64 (rk : Int), .int .u64 (lf : Int), .int .i64 (s : Int)]))] (.bool true) (fun _ => by kernel_rfl) (fun w M => call_val (c_dMay w M.laid) (congrArg Value.bool h3)) fun u3 M => rV 2 <| nT <| cF <| wp_skip <| au_then <| sR <| rV 1 <| ZE M 26 0 2 <| rV 1 <| ZE M 28 0 3 <| rV 2 <| pA M 31 1 5 (ls [.int .u64 (rc : Int), .int .u64 (ct : Int), .int .u64 (rk : Int), .int .u64 (lf : Int), .int .i64 (s : Int)]) <| rV 1 ?_
   refine ZE M 33 1 4 <| rV 3 <| pN M 37 (.cells (av 14 (ls [.string sd, .string rv, .bool (fi), .int .u64 (mt : Int), .int .u64 (rc : Int), .int .u64 (ct : Int), .int .u64 (rk : Int), .int .u64 (lf : Int), .int .i64 (s : Int), .int .u64 0, .int .i64 (s : Int), .slice none 0 0, .bool (fi), .bool false])) 51) fun g3 u4 M => ?_
   replace M : Mem ⟨w, []⟩ [⟨g1, .cells (av 5 (ls [.string y0, .string y1, .string sd, .string rv, .string y4])) 23⟩, ⟨g2, .cells (av 5 (ls [.int .u64 (rc : Int), .int .u64 (ct : Int), .int .u64 (rk : Int), .int .u64 (lf : Int), .int .i64 (s : Int)])) 26⟩, ⟨g3, .cells (av 14 (ls [.string sd, .string rv, .bool (fi), .int .u64 (mt : Int), .int .u64 (rc : Int), .int .u64 (ct : Int), .int .u64 (rk : Int), .int .u64 (lf : Int), .int .i64 (s : Int), .int .u64 0, .int .i64 (s : Int), .slice none 0 0, .bool (fi), .bool false])) 51⟩] u4 := M
   refine rV 2 <| nT <| wp_ret ?_
   exact bodyPost_ret (v := .tuple #[.pointer (some ⟨g3, 0, none⟩), .int .i64 0]) (results_tmp2 Tryz.results8 _ _ _ _ (by kernel_rfl) (by kernel_rfl)) (by kernel_rfl) ⟨(_, _), rfl, ⟨_, _, rfl, slv_nil 1⟩, Mem.okT0 (T := []) (M.drop (.cons _ (.cons _ (List.Sublist.refl _))))⟩
  ·exfalso; omega
 ·exfalso; omega
theorem c_dage {y : TS} {gn : Bool} {d : Nat} {sv : Value} {n : Nat} (hn : n < 18446744073709551616) (w : World) (hL : Laid w) (hT : There w [⟨d, .cells (av 14 (ls [.string y.sd, .string y.rv, .bool (y.fi), .int .u64 ((y.mt : Nat) : Int), .int .u64 ((y.rc : Nat) : Int), .int .u64 ((y.ct : Nat) : Int), .int .u64 ((y.rk : Nat) : Int), .int .u64 ((y.lf : Nat) : Int), .int .i64 ((y.sz : Nat) : Int), .int .u64 ((y.nx : Nat) : Int), .int .i64 ((y.sz : Nat) : Int), sv, .bool (y.su), .bool (gn)])) 51⟩]) : Cs 32 #[.pointer (some ⟨d, 0, none⟩), .int .u64 (n : Int)] w (.int .u64 ((n - y.mt : Nat) : Int)) := by
 go_enter Tryz.func32, Tryz.ntmps32
 have M : Mem ⟨w, [d]⟩ [⟨d, .cells (av 14 (ls [.string y.sd, .string y.rv, .bool (y.fi), .int .u64 ((y.mt : Nat) : Int), .int .u64 ((y.rc : Nat) : Int), .int .u64 ((y.ct : Nat) : Int), .int .u64 ((y.rk : Nat) : Int), .int .u64 ((y.lf : Nat) : Int), .int .i64 ((y.sz : Nat) : Int), .int .u64 ((y.nx : Nat) : Int), .int .i64 ((y.sz : Nat) : Int), sv, .bool (y.su), .bool (gn)])) 51⟩] w := Mem.startT hL hT
 refine sq <| wp_seq <| sR <| rV 4 <| ZE M 9 0 3 ?_
 by_cases c0 : (n : Int) < ((y.mt : Nat) : Int)
 ·refine pH 10 (.bool true) (jT ((n : Int) < ((y.mt : Nat) : Int)) (c0)) <| nT <| cT <| sq <| wp_ret <| au_then_ret ?_
  have e0 : ((n - y.mt : Nat) : Int) = 0 := by omega
  exact bodyPost_ret (v := .int .u64 0) (results_tmp1 Tryz.results32 _ _ _ (by kernel_rfl)) (by kernel_rfl) ⟨by rw [e0], ro_T hT M⟩
 ·refine pH 10 (.bool false) (jF ((n : Int) < ((y.mt : Nat) : Int)) (c0)) <| nT <| cF <| wp_skip <| au_then <| sR <| rV 4 <| ZE M 15 0 3 <| pH 16 (.int .u64 ((n - y.mt : Nat) : Int)) (fun w => Eq.trans (b := .ok (.value (.int .u64 (IntKind.wrap .u64 (((n : Nat) : Int) - ((y.mt : Nat) : Int))))) w) (by kernel_rfl) (by rw [wrapU_sub n y.mt (by omega) (by omega)])) <| rV 1 <| nT <| wp_ret ?_
  exact bodyPost_ret (v := .int .u64 ((n - y.mt : Nat) : Int)) (results_tmp1 Tryz.results32 _ _ _ (by kernel_rfl)) (by kernel_rfl) ⟨rfl, ro_T hT M⟩
theorem c_dOver {y : TS} {gn : Bool} {d : Nat} {sv : Value} {n : Nat} (hn : n < 18446744073709551616) (w : World) (hL : Laid w)  (hT : There w [⟨d, .cells (av 14 (ls [.string y.sd, .string y.rv, .bool (y.fi), .int .u64 ((y.mt : Nat) : Int), .int .u64 ((y.rc : Nat) : Int), .int .u64 ((y.ct : Nat) : Int), .int .u64 ((y.rk : Nat) : Int), .int .u64 ((y.lf : Nat) : Int), .int .i64 ((y.sz : Nat) : Int), .int .u64 ((y.nx : Nat) : Int), .int .i64 ((y.sz : Nat) : Int), sv, .bool (y.su), .bool (gn)])) 51⟩]) : Cs 11 #[.pointer (some ⟨d, 0, none⟩), .int .u64 (n : Int)] w (.bool (dov y gn n)) := by
 go_enter Tryz.func11, Tryz.ntmps11
 have M : Mem ⟨w, [d]⟩ [⟨d, .cells (av 14 (ls [.string y.sd, .string y.rv, .bool (y.fi), .int .u64 ((y.mt : Nat) : Int), .int .u64 ((y.rc : Nat) : Int), .int .u64 ((y.ct : Nat) : Int), .int .u64 ((y.rk : Nat) : Int), .int .u64 ((y.lf : Nat) : Int), .int .i64 ((y.sz : Nat) : Int), .int .u64 ((y.nx : Nat) : Int), .int .i64 ((y.sz : Nat) : Int), sv, .bool (y.su), .bool (gn)])) 51⟩] w := Mem.startT hL hT
 refine sq <| wp_seq <| rg_held M [⟨d, .cells (av 14 (ls [.string y.sd, .string y.rv, .bool (y.fi), .int .u64 ((y.mt : Nat) : Int), .int .u64 ((y.rc : Nat) : Int), .int .u64 ((y.ct : Nat) : Int), .int .u64 ((y.rk : Nat) : Int), .int .u64 ((y.lf : Nat) : Int), .int .i64 ((y.sz : Nat) : Int), .int .u64 ((y.nx : Nat) : Int), .int .i64 ((y.sz : Nat) : Int), sv, .bool (y.su), .bool (gn)])) 51⟩] 15 rfl (by kernel_rfl) (by kernel_rfl) (fun _ _ d _ _ h => by cases d <;> exact h) fun u1 M => ?_
 replace M : Mem ⟨w, [d]⟩ [⟨d, .cells (av 14 (ls [.string y.sd, .string y.rv, .bool (y.fi), .int .u64 ((y.mt : Nat) : Int), .int .u64 ((y.rc : Nat) : Int), .int .u64 ((y.ct : Nat) : Int), .int .u64 ((y.rk : Nat) : Int), .int .u64 ((y.lf : Nat) : Int), .int .i64 ((y.sz : Nat) : Int), .int .u64 ((y.nx : Nat) : Int), .int .i64 ((y.sz : Nat) : Int), sv, .bool (y.su), .bool (gn)])) 51⟩] u1 := M
 refine qV M 0 5 (.pointer (some ⟨d, 0, none⟩)) <| qV M 1 6 (.pointer (some ⟨d, 0, none⟩)) <| qV M 2 7 (.pointer (some ⟨d, 13, none⟩)) ?_
 rcases Bool.eq_false_or_eq_true (gn) with c0 | c0
 ·refine hl_cell M 3 rfl (by decide) (by kernel_rfl) (by kernel_rfl) (want_no rfl) (some 8) rfl 4 _ rfl d 13 (by kernel_rfl) (.bool true) (fun _ => by kernel_rfl) (fun w M => M.cell 0 rfl (by decide) (congrArg Value.bool c0)) <| qV M 4 9 (.bool true) <| hl_skip M 5 rfl (by decide) (by kernel_rfl) (by kernel_rfl) (want_off 4 false rfl 9 rfl (by kernel_rfl)) (some 10) rfl <| hl_skip M 6 rfl (by decide) (by kernel_rfl) (by kernel_rfl) (want_off 4 false rfl 9 rfl (by kernel_rfl)) (some 11) rfl <| hl_skip M 7 rfl (by decide) (by kernel_rfl) (by kernel_rfl) (want_off 4 false rfl 9 rfl (by kernel_rfl)) (some 12) rfl <| hl_skip M 8 rfl (by decide) (by kernel_rfl) (by kernel_rfl) (want_off 4 false rfl 9 rfl (by kernel_rfl)) (some 13) rfl <| hl_skip M 9 rfl (by decide) (by kernel_rfl) (by kernel_rfl) (want_off 4 false rfl 9 rfl (by kernel_rfl)) (some 14) rfl <| hl_skip M 10 rfl (by decide) (by kernel_rfl) (by kernel_rfl) (want_off 4 false rfl 9 rfl (by kernel_rfl)) (some 15) rfl <| hl_skip M 11 rfl (by decide) (by kernel_rfl) (by kernel_rfl) (want_off 4 false rfl 9 rfl (by kernel_rfl)) (some 16) rfl <| hl_skip M 12 rfl (by decide) (by kernel_rfl) (by kernel_rfl) (want_off 4 false rfl 9 rfl (by kernel_rfl)) (some 17) rfl <| hl_skip M 13 rfl (by decide) (by kernel_rfl) (by kernel_rfl) (want_off 4 false rfl 9 rfl (by kernel_rfl)) (some 18) rfl <| qV M 14 19 (.bool true) <| hl_end (by kernel_rfl) (by kernel_rfl) rfl <| rV 1 <| nT <| au_then ?_
  refine wp_ret ?_
  have e0 : dov y gn n = true := by unfold dov; rw [c0]; rfl
  exact bodyPost_ret (v := .bool true) (results_tmp1 Tryz.results11 _ _ _ (by kernel_rfl)) (by kernel_rfl) ⟨by rw [e0], ro_T hT M⟩
 ·refine hl_cell M 3 rfl (by decide) (by kernel_rfl) (by kernel_rfl) (want_no rfl) (some 8) rfl 4 _ rfl d 13 (by kernel_rfl) (.bool false) (fun _ => by kernel_rfl) (fun w M => M.cell 0 rfl (by decide) (congrArg Value.bool c0)) <| qV M 4 9 (.bool false) <| hl_val M 5 rfl (by decide) (by kernel_rfl) (by kernel_rfl) (want_on 4 false rfl 9 rfl (by kernel_rfl)) (some 10) rfl (.pointer (some ⟨d, 0, none⟩)) (fun _ _ => by kernel_rfl) <| hl_val M 6 rfl (by decide) (by kernel_rfl) (by kernel_rfl) (want_on 4 false rfl 9 rfl (by kernel_rfl)) (some 11) rfl (.int .u64 (n : Int)) (fun _ _ => by kernel_rfl) <| hl_val M 8 rfl (by decide) (by kernel_rfl) (by kernel_rfl) (want_on 4 false rfl 9 rfl (by kernel_rfl)) (some 13) rfl (.pointer (some ⟨d, 0, none⟩)) (fun _ _ => by kernel_rfl) <| hl_val M 9 rfl (by decide) (by kernel_rfl) (by kernel_rfl) (want_on 4 false rfl 9 rfl (by kernel_rfl)) (some 14) rfl (.pointer (some ⟨d, 0, none⟩)) (fun _ _ => by kernel_rfl) <| hl_val M 10 rfl (by decide) (by kernel_rfl) (by kernel_rfl) (want_on 4 false rfl 9 rfl (by kernel_rfl)) (some 15) rfl (.pointer (some ⟨d, 4, none⟩)) (fun _ _ => by kernel_rfl) <| hl_val M 11 rfl (by decide) (by kernel_rfl) (by kernel_rfl) (want_on 4 false rfl 9 rfl (by kernel_rfl)) (some 16) rfl (.pointer (some ⟨d, 7, none⟩)) (fun _ _ => by kernel_rfl) <| hl_cell M 12 rfl (by decide) (by kernel_rfl) (by kernel_rfl) (want_on 4 false rfl 9 rfl (by kernel_rfl)) (some 17) rfl 24 _ rfl d 7 (by kernel_rfl) (.int .u64 ((y.lf : Nat) : Int)) (fun _ => by kernel_rfl) (fun w M => M.cell 0 rfl (by decide) rfl) <| hl_one 7 (by decide) (by kernel_rfl) rfl <| pl_call M (want_on 4 false rfl 9 rfl (by kernel_rfl)) (some 12) rfl 32 #[.pointer (some ⟨d, 0, none⟩), .int .u64 (n : Int)] (.int .u64 ((n - y.mt : Nat) : Int)) (fun _ => by kernel_rfl) (fun w M => c_dage hn w M.laid (M.there (.cons_cons _ (List.nil_sublist _)))) fun u2 M => nT ?_
  refine ⟨M, ?_⟩
  by_cases c1 : ((n - y.mt : Nat) : Int) < ((y.lf : Nat) : Int)
  ·refine hl_val M 13 rfl (by decide) (by kernel_rfl) (by kernel_rfl) (want_on 4 false rfl 9 rfl (by kernel_rfl)) (some 18) rfl (.bool false) (fun w _ => (fun w => Eq.trans (b := .ok (.value (.bool (decide (((y.lf : Nat) : Int) ≤ ((n - y.mt : Nat) : Int))))) w) (by kernel_rfl) (by rw [decide_eq_false (by omega)])) w) <| qV M 14 19 (.bool false) <| hl_end (by kernel_rfl) (by kernel_rfl) rfl <| rV 1 <| nT <| au_then <| wp_ret ?_
   have e0 : dov y gn n = false := by unfold dov; rw [c0, decide_eq_false (by omega)]; rfl
   exact bodyPost_ret (v := .bool false) (results_tmp1 Tryz.results11 _ _ _ (by kernel_rfl)) (by kernel_rfl) ⟨by rw [e0], ro_T hT M⟩
  ·refine hl_val M 13 rfl (by decide) (by kernel_rfl) (by kernel_rfl) (want_on 4 false rfl 9 rfl (by kernel_rfl)) (some 18) rfl (.bool true) (fun w _ => (fun w => Eq.trans (b := .ok (.value (.bool (decide (((y.lf : Nat) : Int) ≤ ((n - y.mt : Nat) : Int))))) w) (by kernel_rfl) (by rw [decide_eq_true (by omega)])) w) <| qV M 14 19 (.bool true) <| hl_end (by kernel_rfl) (by kernel_rfl) rfl <| rV 1 <| nT <| au_then <| wp_ret ?_
   have e0 : dov y gn n = true := by unfold dov; rw [c0, decide_eq_true (by omega)]; rfl
   exact bodyPost_ret (v := .bool true) (results_tmp1 Tryz.results11 _ _ _ (by kernel_rfl)) (by kernel_rfl) ⟨by rw [e0], ro_T hT M⟩
theorem c_dSeal {y : TS} {gn : Bool} {d : Nat} {sv : Value} {n : Nat} {s : Yb} (hn : n < 18446744073709551616) (h32 : y.sd.size = 32) (hz : s.size ≤ 5000) (hx : y.nx + 1 < 18446744073709551616) (w : World) (hL : Laid w)  (hT : There w [⟨d, .cells (av 14 (ls [.string y.sd, .string y.rv, .bool (y.fi), .int .u64 ((y.mt : Nat) : Int), .int .u64 ((y.rc : Nat) : Int), .int .u64 ((y.ct : Nat) : Int), .int .u64 ((y.rk : Nat) : Int), .int .u64 ((y.lf : Nat) : Int), .int .i64 ((y.sz : Nat) : Int), .int .u64 ((y.nx : Nat) : Int), .int .i64 ((y.sz : Nat) : Int), sv, .bool (y.su), .bool (gn)])) 51⟩]) : Calls Tryz.prog 27 #[.pointer (some ⟨d, 0, none⟩), .int .u64 (n : Int), .string s] w fun r w' => r = .returned (.tuple #[.int .u64 ((daN y gn n : Nat) : Int), .string (daC y gn n s), .int .i64 (daF y gn n)]) ∧ Grw w w' [d] ∧ w'.heap[d]? = some (.cells (av 14 (ls [.string y.sd, .string y.rv, .bool (y.fi), .int .u64 ((y.mt : Nat) : Int), .int .u64 ((y.rc : Nat) : Int), .int .u64 ((y.ct : Nat) : Int), .int .u64 ((y.rk : Nat) : Int), .int .u64 ((y.lf : Nat) : Int), .int .i64 ((y.sz : Nat) : Int), .int .u64 ((daX y gn n : Nat) : Int), .int .i64 ((y.sz : Nat) : Int), sv, .bool (y.su), .bool (gn)])) 51) := by
 go_enter Tryz.func27, Tryz.ntmps27
 have M : Mem ⟨w, [d]⟩ [⟨d, .cells (av 14 (ls [.string y.sd, .string y.rv, .bool (y.fi), .int .u64 ((y.mt : Nat) : Int), .int .u64 ((y.rc : Nat) : Int), .int .u64 ((y.ct : Nat) : Int), .int .u64 ((y.rk : Nat) : Int), .int .u64 ((y.lf : Nat) : Int), .int .i64 ((y.sz : Nat) : Int), .int .u64 ((y.nx : Nat) : Int), .int .i64 ((y.sz : Nat) : Int), sv, .bool (y.su), .bool (gn)])) 51⟩] w := Mem.startT hL hT
 refine sq <| wp_seq <| wp_seq <| rg_held M [⟨d, .cells (av 14 (ls [.string y.sd, .string y.rv, .bool (y.fi), .int .u64 ((y.mt : Nat) : Int), .int .u64 ((y.rc : Nat) : Int), .int .u64 ((y.ct : Nat) : Int), .int .u64 ((y.rk : Nat) : Int), .int .u64 ((y.lf : Nat) : Int), .int .i64 ((y.sz : Nat) : Int), .int .u64 ((y.nx : Nat) : Int), .int .i64 ((y.sz : Nat) : Int), sv, .bool (y.su), .bool (gn)])) 51⟩] 14 rfl (by kernel_rfl) (by kernel_rfl) (fun _ _ d _ _ h => by cases d <;> exact h) fun u1 M => ?_
 replace M : Mem ⟨w, [d]⟩ [⟨d, .cells (av 14 (ls [.string y.sd, .string y.rv, .bool (y.fi), .int .u64 ((y.mt : Nat) : Int), .int .u64 ((y.rc : Nat) : Int), .int .u64 ((y.ct : Nat) : Int), .int .u64 ((y.rk : Nat) : Int), .int .u64 ((y.lf : Nat) : Int), .int .i64 ((y.sz : Nat) : Int), .int .u64 ((y.nx : Nat) : Int), .int .i64 ((y.sz : Nat) : Int), sv, .bool (y.su), .bool (gn)])) 51⟩] u1 := M
 refine qV M 0 11 (.pointer (some ⟨d, 0, none⟩)) <| qV M 1 12 (.int .u64 (n : Int)) <| hl_one 2 (by decide) (by kernel_rfl) rfl ?_
 rcases Bool.eq_false_or_eq_true (dov y gn n) with c0 | c0
 ·refine pC M 13 11 #[.pointer (some ⟨d, 0, none⟩), .int .u64 (n : Int)] (.bool true) (fun w M => call_val (c_dOver hn w M.laid (M.there (.cons_cons _ (List.nil_sublist _)))) (congrArg Value.bool c0)) fun u2 M => nT ?_
  refine ⟨M, ?_⟩
  refine qV M 3 14 (.bool true) <| hl_skip M 4 rfl (by decide) (by kernel_rfl) (by kernel_rfl) (want_off 3 false rfl 14 rfl (by kernel_rfl)) (some 15) rfl <| hl_skip M 5 rfl (by decide) (by kernel_rfl) (by kernel_rfl) (want_off 3 false rfl 14 rfl (by kernel_rfl)) (some 16) rfl <| hl_skip M 6 rfl (by decide) (by kernel_rfl) (by kernel_rfl) (want_off 3 false rfl 14 rfl (by kernel_rfl)) (some 17) rfl <| hl_skip M 7 rfl (by decide) (by kernel_rfl) (by kernel_rfl) (want_off 3 false rfl 14 rfl (by kernel_rfl)) (some 18) rfl <| hl_skip M 8 rfl (by decide) (by kernel_rfl) (by kernel_rfl) (want_off 3 false rfl 14 rfl (by kernel_rfl)) (some 19) rfl <| hl_skip M 9 rfl (by decide) (by kernel_rfl) (by kernel_rfl) (want_off 3 false rfl 14 rfl (by kernel_rfl)) (some 20) rfl <| hl_skip M 10 rfl (by decide) (by kernel_rfl) (by kernel_rfl) (want_off 3 false rfl 14 rfl (by kernel_rfl)) (some 21) rfl <| hl_skip M 11 rfl (by decide) (by kernel_rfl) (by kernel_rfl) (want_off 3 false rfl 14 rfl (by kernel_rfl)) (some 22) rfl <| hl_skip M 12 rfl (by decide) (by kernel_rfl) (by kernel_rfl) (want_off 3 false rfl 14 rfl (by kernel_rfl)) (some 23) rfl <| hl_skip M 13 rfl (by decide) (by kernel_rfl) (by kernel_rfl) (want_off 3 false rfl 14 rfl (by kernel_rfl)) (some 24) rfl <| hl_end (by kernel_rfl) (by kernel_rfl) rfl <| rV 1 <| nT <| au_then <| cT ?_
  refine sq <| wp_ret <| au_then_ret ?_
  have e0 : daF y gn n = 180 := by unfold daF; rw [if_pos c0]
  exact bodyPost_ret (v := .tuple #[.int .u64 0, .string ⟨#[]⟩, .int .i64 180]) (results_t3 Tryz.results27 _ _ _ _ _ (by kernel_rfl) (by kernel_rfl) (by kernel_rfl)) (by kernel_rfl) ⟨by unfold daN daC; rw [e0, if_neg (by decide), if_neg (by decide)]; rfl, M.old, by unfold daX; rw [e0, if_neg (by decide)]; exact M.get 0 rfl⟩
 ·refine pC M 13 11 #[.pointer (some ⟨d, 0, none⟩), .int .u64 (n : Int)] (.bool false) (fun w M => call_val (c_dOver hn w M.laid (M.there (.cons_cons _ (List.nil_sublist _)))) (congrArg Value.bool c0)) fun u2 M => nT ?_
  refine ⟨M, ?_⟩
  refine qV M 3 14 (.bool false) <| hl_val M 4 rfl (by decide) (by kernel_rfl) (by kernel_rfl) (want_on 3 false rfl 14 rfl (by kernel_rfl)) (some 15) rfl (.pointer (some ⟨d, 0, none⟩)) (fun _ _ => by kernel_rfl) <| hl_val M 5 rfl (by decide) (by kernel_rfl) (by kernel_rfl) (want_on 3 false rfl 14 rfl (by kernel_rfl)) (some 16) rfl (.pointer (some ⟨d, 0, none⟩)) (fun _ _ => by kernel_rfl) <| hl_val M 6 rfl (by decide) (by kernel_rfl) (by kernel_rfl) (want_on 3 false rfl 14 rfl (by kernel_rfl)) (some 17) rfl (.pointer (some ⟨d, 9, none⟩)) (fun _ _ => by kernel_rfl) <| hl_cell M 7 rfl (by decide) (by kernel_rfl) (by kernel_rfl) (want_on 3 false rfl 14 rfl (by kernel_rfl)) (some 18) rfl 24 _ rfl d 9 (by kernel_rfl) (.int .u64 ((y.nx : Nat) : Int)) (fun _ => by kernel_rfl) (fun w M => M.cell 0 rfl (by decide) rfl) <| hl_val M 8 rfl (by decide) (by kernel_rfl) (by kernel_rfl) (want_on 3 false rfl 14 rfl (by kernel_rfl)) (some 19) rfl (.pointer (some ⟨d, 0, none⟩)) (fun _ _ => by kernel_rfl) <| hl_val M 9 rfl (by decide) (by kernel_rfl) (by kernel_rfl) (want_on 3 false rfl 14 rfl (by kernel_rfl)) (some 20) rfl (.pointer (some ⟨d, 0, none⟩)) (fun _ _ => by kernel_rfl) <| hl_val M 10 rfl (by decide) (by kernel_rfl) (by kernel_rfl) (want_on 3 false rfl 14 rfl (by kernel_rfl)) (some 21) rfl (.pointer (some ⟨d, 4, none⟩)) (fun _ _ => by kernel_rfl) <| hl_val M 11 rfl (by decide) (by kernel_rfl) (by kernel_rfl) (want_on 3 false rfl 14 rfl (by kernel_rfl)) (some 22) rfl (.pointer (some ⟨d, 5, none⟩)) (fun _ _ => by kernel_rfl) <| hl_cell M 12 rfl (by decide) (by kernel_rfl) (by kernel_rfl) (want_on 3 false rfl 14 rfl (by kernel_rfl)) (some 23) rfl 24 _ rfl d 5 (by kernel_rfl) (.int .u64 ((y.ct : Nat) : Int)) (fun _ => by kernel_rfl) (fun w M => M.cell 0 rfl (by decide) rfl) ?_
  by_cases c1 : ((y.nx : Nat) : Int) < ((y.ct : Nat) : Int)
  ·refine hl_val M 13 rfl (by decide) (by kernel_rfl) (by kernel_rfl) (want_on 3 false rfl 14 rfl (by kernel_rfl)) (some 24) rfl (.bool false) (fun w _ => (fun w => Eq.trans (b := .ok (.value (.bool (decide (((y.ct : Nat) : Int) ≤ ((y.nx : Nat) : Int))))) w) (by kernel_rfl) (by rw [decide_eq_false (by omega)])) w) <| hl_end (by kernel_rfl) (by kernel_rfl) rfl <| rV 1 <| nT <| au_then <| cF <| wp_skip <| au_then <| wp_seq <| sR <| rV 3 ?_
   rcases Bool.eq_false_or_eq_true (y.su) with c2 | c2
   ·refine pE M 29 d 12 (.bool true) (fun w M => M.cell 0 rfl (by decide) (congrArg Value.bool c2)) <| rV 1 <| nT <| cF <| wp_skip <| au_then <| wp_seq <| rg_held M [⟨d, .cells (av 14 (ls [.string y.sd, .string y.rv, .bool (y.fi), .int .u64 ((y.mt : Nat) : Int), .int .u64 ((y.rc : Nat) : Int), .int .u64 ((y.ct : Nat) : Int), .int .u64 ((y.rk : Nat) : Int), .int .u64 ((y.lf : Nat) : Int), .int .i64 ((y.sz : Nat) : Int), .int .u64 ((y.nx : Nat) : Int), .int .i64 ((y.sz : Nat) : Int), sv, .bool (y.su), .bool (gn)])) 51⟩] 15 rfl (by kernel_rfl) (by kernel_rfl) (fun _ _ d _ _ h => by cases d <;> exact h) fun u3 M => ?_
    replace M : Mem ⟨w, [d]⟩ [⟨d, .cells (av 14 (ls [.string y.sd, .string y.rv, .bool (y.fi), .int .u64 ((y.mt : Nat) : Int), .int .u64 ((y.rc : Nat) : Int), .int .u64 ((y.ct : Nat) : Int), .int .u64 ((y.rk : Nat) : Int), .int .u64 ((y.lf : Nat) : Int), .int .i64 ((y.sz : Nat) : Int), .int .u64 ((y.nx : Nat) : Int), .int .i64 ((y.sz : Nat) : Int), sv, .bool (y.su), .bool (gn)])) 51⟩] u3 := M
    refine qV M 0 32 (.pointer (some ⟨d, 0, none⟩)) <| qV M 1 33 (.pointer (some ⟨d, 0, none⟩)) <| qV M 2 34 (.pointer (some ⟨d, 0, none⟩)) <| hl_cell M 3 rfl (by decide) (by kernel_rfl) (by kernel_rfl) (want_no rfl) (some 35) rfl 9 _ rfl d 0 (by kernel_rfl) (.string y.sd) (fun _ => by kernel_rfl) (fun w M => M.cell 0 rfl (by decide) rfl) <| qV M 4 36 (.pointer (some ⟨d, 0, none⟩)) <| qV M 5 37 (.pointer (some ⟨d, 0, none⟩)) <| qV M 6 38 (.pointer (some ⟨d, 9, none⟩)) <| hl_cell M 7 rfl (by decide) (by kernel_rfl) (by kernel_rfl) (want_no rfl) (some 39) rfl 24 _ rfl d 9 (by kernel_rfl) (.int .u64 ((y.nx : Nat) : Int)) (fun _ => by kernel_rfl) (fun w M => M.cell 0 rfl (by decide) rfl) <| qV M 9 41 (.string s) <| hl_one 8 (by decide) (by kernel_rfl) rfl <| ZC M 40 (fun w M => d_Nonce ((y.nx : Nat) : Int) w M.laid) fun u4 M => nT ?_
    refine ⟨M, ?_⟩
    refine hl_one 10 (by decide) (by kernel_rfl) rfl <| pC M 42 50 #[.string y.sd, .string (nS ((y.nx : Nat) : Int)), .string ⟨#[]⟩, .string s] (.tuple #[.string (sealS y.sd (nS ((y.nx : Nat) : Int)) ⟨#[]⟩ s), .int .i64 0]) (fun w M => d_SealA y.sd _ ⟨#[]⟩ s ⟨h32, nS_size _⟩ (show 0 + s.size ≤ 5000 by omega) w M.laid) fun u5 M => nT ?_
    refine ⟨M, ?_⟩
    refine qV M 11 31 (.tuple #[.string (sealS y.sd (nS ((y.nx : Nat) : Int)) ⟨#[]⟩ s), .int .i64 0]) <| qV M 12 43 (.string (sealS y.sd (nS ((y.nx : Nat) : Int)) ⟨#[]⟩ s)) <| qV M 13 44 (.int .i64 0) <| qV M 14 9 (.string (sealS y.sd (nS ((y.nx : Nat) : Int)) ⟨#[]⟩ s)) <| hl_end (by kernel_rfl) (by kernel_rfl) rfl <| rV 1 <| nT <| au_then <| wp_seq <| sq <| cF <| wp_skip <| au_then <| sR <| rV 3 <| ZE M 51 0 9 ?_
    refine pH 52 (.int .u64 ((y.nx + 1 : Nat) : Int)) (fun w => Eq.trans (b := .ok (.value (.int .u64 (IntKind.wrap .u64 (((y.nx : Nat) : Int) + 1)))) w) (by kernel_rfl) (by rw [wrapU_suc y.nx (by omega)])) <| rV 2 <| pP M 0 rfl 9 (.int .u64 ((y.nx + 1 : Nat) : Int)) (ls [.string y.sd, .string y.rv, .bool (y.fi), .int .u64 ((y.mt : Nat) : Int), .int .u64 ((y.rc : Nat) : Int), .int .u64 ((y.ct : Nat) : Int), .int .u64 ((y.rk : Nat) : Int), .int .u64 ((y.lf : Nat) : Int), .int .i64 ((y.sz : Nat) : Int), .int .u64 ((y.nx + 1 : Nat) : Int), .int .i64 ((y.sz : Nat) : Int), sv, .bool (y.su), .bool (gn)]) (by decide) (put_ls _ 9 _ _ rfl) fun u6 M => ?_
    replace M : Mem ⟨w, [d]⟩ [⟨d, .cells (av 14 (ls [.string y.sd, .string y.rv, .bool (y.fi), .int .u64 ((y.mt : Nat) : Int), .int .u64 ((y.rc : Nat) : Int), .int .u64 ((y.ct : Nat) : Int), .int .u64 ((y.rk : Nat) : Int), .int .u64 ((y.lf : Nat) : Int), .int .i64 ((y.sz : Nat) : Int), .int .u64 ((y.nx + 1 : Nat) : Int), .int .i64 ((y.sz : Nat) : Int), sv, .bool (y.su), .bool (gn)])) 51⟩] u6 := M
    refine nT <| sR <| rV 3 <| ZE M 58 0 9 <| pH 59 (.int .u64 ((y.nx : Nat) : Int)) (fun w => Eq.trans (b := .ok (.value (.int .u64 (IntKind.wrap .u64 (((y.nx + 1 : Nat) : Int) - 1)))) w) (by kernel_rfl) (by rw [wrapU_pre y.nx (by omega)])) <| rV 4 <| nT <| wp_ret ?_
    have e0 : daF y gn n = 0 := by unfold daF; rw [if_neg (Bool.eq_false_iff.1 c0), if_neg (by omega), if_pos c2]
    exact bodyPost_ret (v := .tuple #[.int .u64 ((y.nx : Nat) : Int), .string (sealS y.sd (nS ((y.nx : Nat) : Int)) ⟨#[]⟩ s), .int .i64 0]) (results_t3 Tryz.results27 _ _ _ _ _ (by kernel_rfl) (by kernel_rfl) (by kernel_rfl)) (by kernel_rfl) ⟨by unfold daN daC; rw [e0, if_pos rfl, if_pos rfl], M.old, by unfold daX; rw [e0, if_pos rfl]; exact M.get 0 rfl⟩
   ·refine pE M 29 d 12 (.bool false) (fun w M => M.cell 0 rfl (by decide) (congrArg Value.bool c2)) <| rV 1 <| nT <| cT <| sq <| wp_ret <| au_then_ret ?_
    have e0 : daF y gn n = 3 := by unfold daF; rw [if_neg (Bool.eq_false_iff.1 c0), if_neg (by omega), if_neg (Bool.eq_false_iff.1 c2)]
    exact bodyPost_ret (v := .tuple #[.int .u64 0, .string ⟨#[]⟩, .int .i64 3]) (results_t3 Tryz.results27 _ _ _ _ _ (by kernel_rfl) (by kernel_rfl) (by kernel_rfl)) (by kernel_rfl) ⟨by unfold daN daC; rw [e0, if_neg (by decide), if_neg (by decide)]; rfl, M.old, by unfold daX; rw [e0, if_neg (by decide)]; exact M.get 0 rfl⟩
  ·refine hl_val M 13 rfl (by decide) (by kernel_rfl) (by kernel_rfl) (want_on 3 false rfl 14 rfl (by kernel_rfl)) (some 24) rfl (.bool true) (fun w _ => (fun w => Eq.trans (b := .ok (.value (.bool (decide (((y.ct : Nat) : Int) ≤ ((y.nx : Nat) : Int))))) w) (by kernel_rfl) (by rw [decide_eq_true (by omega)])) w) <| hl_end (by kernel_rfl) (by kernel_rfl) rfl <| rV 1 <| nT <| au_then <| cT <| sq <| wp_ret <| au_then_ret ?_
   have e0 : daF y gn n = 180 := by unfold daF; rw [if_neg (Bool.eq_false_iff.1 c0), if_pos (by omega)]
   exact bodyPost_ret (v := .tuple #[.int .u64 0, .string ⟨#[]⟩, .int .i64 180]) (results_t3 Tryz.results27 _ _ _ _ _ (by kernel_rfl) (by kernel_rfl) (by kernel_rfl)) (by kernel_rfl) ⟨by unfold daN daC; rw [e0, if_neg (by decide), if_neg (by decide)]; rfl, M.old, by unfold daX; rw [e0, if_neg (by decide)]; exact M.get 0 rfl⟩
theorem c_dOpen {y : TS} {gn : Bool} {d : Nat} {sv : Value} {n : Nat} {i : Nat} {c : Yb} {Ts : List Blk} (hS : SlV 1 (vsU y.q) y.q.length sv Ts) (hs : 1 ≤ y.sz) (hs4 : y.sz ≤ 4096) (hl : y.q.length < 1000000) (hM : ∀ x ∈ y.q, x < 18446744073709551616) (hn : n < 18446744073709551616) (h32 : y.rv.size = 32) (hz : c.size ≤ 5000) (w : World) (hL : Laid w)  (hT : There w (⟨d, .cells (av 14 (ls [.string y.sd, .string y.rv, .bool (y.fi), .int .u64 ((y.mt : Nat) : Int), .int .u64 ((y.rc : Nat) : Int), .int .u64 ((y.ct : Nat) : Int), .int .u64 ((y.rk : Nat) : Int), .int .u64 ((y.lf : Nat) : Int), .int .i64 ((y.sz : Nat) : Int), .int .u64 ((y.nx : Nat) : Int), .int .i64 ((y.sz : Nat) : Int), sv, .bool (y.su), .bool (gn)])) 51⟩ :: Ts)) : Calls Tryz.prog 29 #[.pointer (some ⟨d, 0, none⟩), .int .u64 (n : Int), .int .u64 (i : Int), .string c] w fun r w' => ∃ x : Value × List Blk, r = .returned (.tuple #[.string (if daO y gn n i = 0 then opC y.rv i c else ⟨#[]⟩), .int .i64 (if daO y gn n i = 0 then opZ y.rv i c else daO y gn n i)]) ∧ SlV 1 (vsU (if daO y gn n i = 0 then opQ y.sz y.q y.rv i c else y.q)) (if daO y gn n i = 0 then opQ y.sz y.q y.rv i c else y.q).length x.1 x.2 ∧ OkT w w' (⟨d, .cells (av 14 (ls [.string y.sd, .string y.rv, .bool (y.fi), .int .u64 ((y.mt : Nat) : Int), .int .u64 ((y.rc : Nat) : Int), .int .u64 ((y.ct : Nat) : Int), .int .u64 ((y.rk : Nat) : Int), .int .u64 ((y.lf : Nat) : Int), .int .i64 ((y.sz : Nat) : Int), .int .u64 ((y.nx : Nat) : Int), .int .i64 ((y.sz : Nat) : Int), sv, .bool (y.su), .bool (gn)])) 51⟩ :: Ts) (⟨d, .cells (av 14 (ls [.string y.sd, .string y.rv, .bool (y.fi), .int .u64 ((y.mt : Nat) : Int), .int .u64 ((y.rc : Nat) : Int), .int .u64 ((y.ct : Nat) : Int), .int .u64 ((y.rk : Nat) : Int), .int .u64 ((y.lf : Nat) : Int), .int .i64 ((y.sz : Nat) : Int), .int .u64 ((y.nx : Nat) : Int), .int .i64 ((y.sz : Nat) : Int), x.1, .bool ((if daO y gn n i = 0 then opU y.su y.rv i c else y.su)), .bool (gn)])) 51⟩ :: x.2) := by
 go_enter Tryz.func29, Tryz.ntmps29
 have M : Mem ⟨w, (⟨d, .cells (av 14 (ls [.string y.sd, .string y.rv, .bool (y.fi), .int .u64 ((y.mt : Nat) : Int), .int .u64 ((y.rc : Nat) : Int), .int .u64 ((y.ct : Nat) : Int), .int .u64 ((y.rk : Nat) : Int), .int .u64 ((y.lf : Nat) : Int), .int .i64 ((y.sz : Nat) : Int), .int .u64 ((y.nx : Nat) : Int), .int .i64 ((y.sz : Nat) : Int), sv, .bool (y.su), .bool (gn)])) 51⟩ :: Ts).map Blk.g⟩ (⟨d, .cells (av 14 (ls [.string y.sd, .string y.rv, .bool (y.fi), .int .u64 ((y.mt : Nat) : Int), .int .u64 ((y.rc : Nat) : Int), .int .u64 ((y.ct : Nat) : Int), .int .u64 ((y.rk : Nat) : Int), .int .u64 ((y.lf : Nat) : Int), .int .i64 ((y.sz : Nat) : Int), .int .u64 ((y.nx : Nat) : Int), .int .i64 ((y.sz : Nat) : Int), sv, .bool (y.su), .bool (gn)])) 51⟩ :: Ts) w := Mem.startT hL hT
 refine sq <| wp_seq <| sR <| rV 2 ?_
 rcases Bool.eq_false_or_eq_true (dov y gn n) with c0 | c0
 ·refine pC M 14 11 #[.pointer (some ⟨d, 0, none⟩), .int .u64 (n : Int)] (.bool true) (fun w M => call_val (c_dOver hn w M.laid (M.there (.cons_cons _ (List.nil_sublist _)))) (congrArg Value.bool c0)) fun u1 M => rV 9 <| nT <| cT <| sq <| wp_ret <| au_then_ret ?_
  have e0 : daO y gn n i = 180 := by unfold daO; rw [if_pos c0]
  exact bodyPost_ret (v := .tuple #[.string ⟨#[]⟩, .int .i64 180]) (results_tmp2 Tryz.results29 _ _ _ _ (by kernel_rfl) (by kernel_rfl)) (by kernel_rfl) ⟨(sv, Ts), by rw [if_neg (by rw [e0]; decide)]; rw [if_neg (by rw [e0]; decide)]; rw [e0], by rw [if_neg (by rw [e0]; decide)]; exact hS, by rw [if_neg (by rw [e0]; decide)]; exact M.okT0⟩
 ·refine pC M 14 11 #[.pointer (some ⟨d, 0, none⟩), .int .u64 (n : Int)] (.bool false) (fun w M => call_val (c_dOver hn w M.laid (M.there (.cons_cons _ (List.nil_sublist _)))) (congrArg Value.bool c0)) fun u1 M => rV 6 <| pl_cell M (want_on 3 false rfl 15 rfl (by kernel_rfl)) (some 21) rfl 24 _ rfl d 5 (by kernel_rfl) (.int .u64 ((y.ct : Nat) : Int)) (fun _ => by kernel_rfl) (fun w M => M.cell 0 rfl (by decide) rfl) ?_
  by_cases c1 : (i : Int) < ((y.ct : Nat) : Int)
  ·refine pl_val (want_on 3 false rfl 15 rfl (by kernel_rfl)) (some 22) rfl (.bool false) (fun w => Eq.trans (b := .ok (.value (.bool (decide (((y.ct : Nat) : Int) ≤ (i : Int))))) w) (by kernel_rfl) (by rw [decide_eq_false (by omega)])) <| rV 1 <| nT <| cF <| wp_skip <| au_then <| sR <| rV 4 <| pC M 28 53 #[.pointer (some ⟨d, 10, none⟩), .int .u64 (i : Int)] (.int .i64 (my y.sz y.q i)) (fun w M => e_May hS hs hs4 hl hM w M.laid (M.there (List.Sublist.refl _))) fun u2 M => rV 1 <| nT <| wp_seq <| sR <| rV 1 ?_
   by_cases c2 : (my y.sz y.q i) = 0
   ·refine pH 30 (.bool false) (jD ((my y.sz y.q i) = 0) (c2)) <| nT <| cF <| wp_skip <| au_then <| wp_seq <| rg_held M [⟨d, .cells (av 14 (ls [.string y.sd, .string y.rv, .bool (y.fi), .int .u64 ((y.mt : Nat) : Int), .int .u64 ((y.rc : Nat) : Int), .int .u64 ((y.ct : Nat) : Int), .int .u64 ((y.rk : Nat) : Int), .int .u64 ((y.lf : Nat) : Int), .int .i64 ((y.sz : Nat) : Int), .int .u64 ((y.nx : Nat) : Int), .int .i64 ((y.sz : Nat) : Int), sv, .bool (y.su), .bool (gn)])) 51⟩] 12 rfl (by kernel_rfl) (by kernel_rfl) (fun _ _ d _ _ h => by cases d <;> exact h) fun u3 M => ?_
    replace M : Mem ⟨w, (⟨d, .cells (av 14 (ls [.string y.sd, .string y.rv, .bool (y.fi), .int .u64 ((y.mt : Nat) : Int), .int .u64 ((y.rc : Nat) : Int), .int .u64 ((y.ct : Nat) : Int), .int .u64 ((y.rk : Nat) : Int), .int .u64 ((y.lf : Nat) : Int), .int .i64 ((y.sz : Nat) : Int), .int .u64 ((y.nx : Nat) : Int), .int .i64 ((y.sz : Nat) : Int), sv, .bool (y.su), .bool (gn)])) 51⟩ :: Ts).map Blk.g⟩ (⟨d, .cells (av 14 (ls [.string y.sd, .string y.rv, .bool (y.fi), .int .u64 ((y.mt : Nat) : Int), .int .u64 ((y.rc : Nat) : Int), .int .u64 ((y.ct : Nat) : Int), .int .u64 ((y.rk : Nat) : Int), .int .u64 ((y.lf : Nat) : Int), .int .i64 ((y.sz : Nat) : Int), .int .u64 ((y.nx : Nat) : Int), .int .i64 ((y.sz : Nat) : Int), sv, .bool (y.su), .bool (gn)])) 51⟩ :: Ts) u3 := M
    refine qV (M.drop (.cons_cons _ (List.nil_sublist _))) 0 33 (.pointer (some ⟨d, 0, none⟩)) <| qV (M.drop (.cons_cons _ (List.nil_sublist _))) 1 34 (.pointer (some ⟨d, 0, none⟩)) <| qV (M.drop (.cons_cons _ (List.nil_sublist _))) 2 35 (.pointer (some ⟨d, 1, none⟩)) <| hl_cell (M.drop (.cons_cons _ (List.nil_sublist _))) 3 rfl (by decide) (by kernel_rfl) (by kernel_rfl) (want_no rfl) (some 36) rfl 9 _ rfl d 1 (by kernel_rfl) (.string y.rv) (fun _ => by kernel_rfl) (fun w M => M.cell 0 rfl (by decide) rfl) <| qV (M.drop (.cons_cons _ (List.nil_sublist _))) 4 37 (.int .u64 (i : Int)) <| qV (M.drop (.cons_cons _ (List.nil_sublist _))) 6 39 (.string c) <| hl_one 5 (by decide) (by kernel_rfl) rfl <| ZC M 38 (fun w M => d_Nonce (i : Int) w M.laid) fun u4 M => nT ?_
    refine ⟨(M.drop (.cons_cons _ (List.nil_sublist _))), ?_⟩
    refine hl_one 7 (by decide) (by kernel_rfl) rfl <| ZC M 40 (fun w M => d_AOpen y.rv i c h32 hz w M.laid) fun u5 M => nT ?_
    refine ⟨(M.drop (.cons_cons _ (List.nil_sublist _))), ?_⟩
    refine qV (M.drop (.cons_cons _ (List.nil_sublist _))) 8 32 (.tuple #[.string (opC y.rv i c), .int .i64 (opZ y.rv i c)]) <| qV (M.drop (.cons_cons _ (List.nil_sublist _))) 9 41 (.string (opC y.rv i c)) <| qV (M.drop (.cons_cons _ (List.nil_sublist _))) 10 42 (.int .i64 (opZ y.rv i c)) <| qV (M.drop (.cons_cons _ (List.nil_sublist _))) 11 11 (.string (opC y.rv i c)) <| hl_end (by kernel_rfl) (by kernel_rfl) rfl <| rV 1 <| nT <| au_then <| wp_seq <| sR <| rV 1 ?_
    by_cases c3 : (opZ y.rv i c) = 0
    ·refine pH 44 (.bool false) (jD ((opZ y.rv i c) = 0) (c3)) <| nT <| cF <| wp_skip <| au_then <| sR <| rV 4 <| pl_callM M (want_no rfl) (some 50) rfl 55 #[.pointer (some ⟨d, 10, none⟩), .int .u64 (i : Int)] [] (⟨d, .cells (av 14 (ls [.string y.sd, .string y.rv, .bool (y.fi), .int .u64 ((y.mt : Nat) : Int), .int .u64 ((y.rc : Nat) : Int), .int .u64 ((y.ct : Nat) : Int), .int .u64 ((y.rk : Nat) : Int), .int .u64 ((y.lf : Nat) : Int), .int .i64 ((y.sz : Nat) : Int), .int .u64 ((y.nx : Nat) : Int), .int .i64 ((y.sz : Nat) : Int), sv, .bool (y.su), .bool (gn)])) 51⟩ :: Ts) [] (by simp only [List.append_assoc, List.cons_append, List.nil_append, List.append_nil]) (fun x : Value × List Blk => .int .i64 (my y.sz y.q i)) (fun x : Value × List Blk => ⟨d, .cells (av 14 (ls [.string y.sd, .string y.rv, .bool (y.fi), .int .u64 ((y.mt : Nat) : Int), .int .u64 ((y.rc : Nat) : Int), .int .u64 ((y.ct : Nat) : Int), .int .u64 ((y.rk : Nat) : Int), .int .u64 ((y.lf : Nat) : Int), .int .i64 ((y.sz : Nat) : Int), .int .u64 ((y.nx : Nat) : Int), .int .i64 ((y.sz : Nat) : Int), x.1, .bool (y.su), .bool (gn)])) 51⟩ :: x.2) (fun x : Value × List Blk => SlV 1 (vsU (mk y.sz y.q i)) (mk y.sz y.q i).length x.1 x.2) (fun _ => by kernel_rfl) (fun w hL hT => e_Mark hS hs hs4 hl hM w hL hT) ?_
     rintro ⟨sv2, T2⟩ u6 hS2 M
     replace M : Mem ⟨w, (⟨d, .cells (av 14 (ls [.string y.sd, .string y.rv, .bool (y.fi), .int .u64 ((y.mt : Nat) : Int), .int .u64 ((y.rc : Nat) : Int), .int .u64 ((y.ct : Nat) : Int), .int .u64 ((y.rk : Nat) : Int), .int .u64 ((y.lf : Nat) : Int), .int .i64 ((y.sz : Nat) : Int), .int .u64 ((y.nx : Nat) : Int), .int .i64 ((y.sz : Nat) : Int), sv, .bool (y.su), .bool (gn)])) 51⟩ :: Ts).map Blk.g⟩ (⟨d, .cells (av 14 (ls [.string y.sd, .string y.rv, .bool (y.fi), .int .u64 ((y.mt : Nat) : Int), .int .u64 ((y.rc : Nat) : Int), .int .u64 ((y.ct : Nat) : Int), .int .u64 ((y.rk : Nat) : Int), .int .u64 ((y.lf : Nat) : Int), .int .i64 ((y.sz : Nat) : Int), .int .u64 ((y.nx : Nat) : Int), .int .i64 ((y.sz : Nat) : Int), sv2, .bool (y.su), .bool (gn)])) 51⟩ :: T2) u6 := by simpa only [List.append_assoc, List.cons_append, List.nil_append, List.append_nil] using M
     refine nT <| sR <| rV 3 <| pP M 0 rfl 12 (.bool true) (ls [.string y.sd, .string y.rv, .bool (y.fi), .int .u64 ((y.mt : Nat) : Int), .int .u64 ((y.rc : Nat) : Int), .int .u64 ((y.ct : Nat) : Int), .int .u64 ((y.rk : Nat) : Int), .int .u64 ((y.lf : Nat) : Int), .int .i64 ((y.sz : Nat) : Int), .int .u64 ((y.nx : Nat) : Int), .int .i64 ((y.sz : Nat) : Int), sv2, .bool true, .bool (gn)]) (by decide) (put_ls _ 12 _ _ rfl) fun u7 M => ?_
     replace M : Mem ⟨w, (⟨d, .cells (av 14 (ls [.string y.sd, .string y.rv, .bool (y.fi), .int .u64 ((y.mt : Nat) : Int), .int .u64 ((y.rc : Nat) : Int), .int .u64 ((y.ct : Nat) : Int), .int .u64 ((y.rk : Nat) : Int), .int .u64 ((y.lf : Nat) : Int), .int .i64 ((y.sz : Nat) : Int), .int .u64 ((y.nx : Nat) : Int), .int .i64 ((y.sz : Nat) : Int), sv, .bool (y.su), .bool (gn)])) 51⟩ :: Ts).map Blk.g⟩ (⟨d, .cells (av 14 (ls [.string y.sd, .string y.rv, .bool (y.fi), .int .u64 ((y.mt : Nat) : Int), .int .u64 ((y.rc : Nat) : Int), .int .u64 ((y.ct : Nat) : Int), .int .u64 ((y.rk : Nat) : Int), .int .u64 ((y.lf : Nat) : Int), .int .i64 ((y.sz : Nat) : Int), .int .u64 ((y.nx : Nat) : Int), .int .i64 ((y.sz : Nat) : Int), sv2, .bool true, .bool (gn)])) 51⟩ :: T2) u7 := M
     refine nT <| sq <| wp_ret ?_
     have e0 : daO y gn n i = my y.sz y.q i := by unfold daO; rw [if_neg (Bool.eq_false_iff.1 c0), if_neg (by omega)]
     have e9 : daO y gn n i = 0 := e0.trans c2
     have e1 : opU y.su y.rv i c = true := by unfold opU; rw [if_pos c3]
     have e2 : opQ y.sz y.q y.rv i c = mk y.sz y.q i := by unfold opQ; rw [if_pos c3]
     exact bodyPost_ret (v := .tuple #[.string (opC y.rv i c), .int .i64 0]) (results_tmp2 Tryz.results29 _ _ _ _ (by kernel_rfl) (by kernel_rfl)) (by kernel_rfl) ⟨(sv2, T2), by rw [if_pos e9]; rw [if_pos e9]; rw [c3], by rw [if_pos e9]; rw [e2]; exact hS2, by rw [if_pos e9]; rw [e1]; exact M.okT0⟩
    ·refine pH 44 (.bool true) (jU ((opZ y.rv i c) = 0) (c3)) <| nT <| cT <| sq <| wp_ret <| au_then_ret ?_
     have e0 : daO y gn n i = my y.sz y.q i := by unfold daO; rw [if_neg (Bool.eq_false_iff.1 c0), if_neg (by omega)]
     have e9 : daO y gn n i = 0 := e0.trans c2
     have e1 : opU y.su y.rv i c = y.su := by unfold opU; rw [if_neg c3]
     have e2 : opQ y.sz y.q y.rv i c = y.q := by unfold opQ; rw [if_neg c3]
     have e3 : opC y.rv i c = ⟨#[]⟩ := by unfold opC; rw [if_neg c3]
     exact bodyPost_ret (v := .tuple #[.string ⟨#[]⟩, .int .i64 (opZ y.rv i c)]) (results_tmp2 Tryz.results29 _ _ _ _ (by kernel_rfl) (by kernel_rfl)) (by kernel_rfl) ⟨(sv, Ts), by rw [if_pos e9]; rw [if_pos e9]; rw [e3], by rw [if_pos e9]; rw [e2]; exact hS, by rw [if_pos e9]; rw [e1]; exact M.okT0⟩
   ·refine pH 30 (.bool true) (jU ((my y.sz y.q i) = 0) (c2)) <| nT <| cT <| sq <| wp_ret <| au_then_ret ?_
    have e0 : daO y gn n i = my y.sz y.q i := by unfold daO; rw [if_neg (Bool.eq_false_iff.1 c0), if_neg (by omega)]
    exact bodyPost_ret (v := .tuple #[.string ⟨#[]⟩, .int .i64 (my y.sz y.q i)]) (results_tmp2 Tryz.results29 _ _ _ _ (by kernel_rfl) (by kernel_rfl)) (by kernel_rfl) ⟨(sv, Ts), by rw [if_neg (by rw [e0]; exact c2)]; rw [if_neg (by rw [e0]; exact c2)]; rw [e0], by rw [if_neg (by rw [e0]; exact c2)]; exact hS, by rw [if_neg (by rw [e0]; exact c2)]; exact M.okT0⟩
  ·refine pl_val (want_on 3 false rfl 15 rfl (by kernel_rfl)) (some 22) rfl (.bool true) (fun w => Eq.trans (b := .ok (.value (.bool (decide (((y.ct : Nat) : Int) ≤ (i : Int))))) w) (by kernel_rfl) (by rw [decide_eq_true (by omega)])) <| rV 1 <| nT <| cT <| sq <| wp_ret <| au_then_ret ?_
   have e0 : daO y gn n i = 180 := by unfold daO; rw [if_neg (Bool.eq_false_iff.1 c0), if_pos (by omega)]
   exact bodyPost_ret (v := .tuple #[.string ⟨#[]⟩, .int .i64 180]) (results_tmp2 Tryz.results29 _ _ _ _ (by kernel_rfl) (by kernel_rfl)) (by kernel_rfl) ⟨(sv, Ts), by rw [if_neg (by rw [e0]; decide)]; rw [if_neg (by rw [e0]; decide)]; rw [e0], by rw [if_neg (by rw [e0]; decide)]; exact hS, by rw [if_neg (by rw [e0]; decide)]; exact M.okT0⟩
open Go.RowKit
def pX (y : TS) (gn : Bool) : TS := if gn then y.wX else y
def jS (y : TS) (gn : Bool) (n : Nat) (s : Yb) : TS := if gn then y else y.sX n s
def jO (y : TS) (gn : Bool) (n i : Nat) (c : Yb) : TS := if gn then y else y.oX n i c
theorem pX_ov {y : TS} {gn : Bool} {n : Nat} (h : y.sd.size = 32) : (pX y gn).ov n = dov y gn n := by
 unfold pX dov
 cases gn
 ·unfold TS.ov ovB
  simp only [Bool.false_or, Bool.false_eq_true, if_false]
  have := ne_empty h (by decide)
  simp [this]
 ·simp only [if_true, Bool.true_or]
  unfold TS.ov ovB
  exact decide_eq_true (Or.inl rfl)
theorem pX_su (y : TS) (gn : Bool) : (pX y gn).su = y.su ∧ (pX y gn).nx = y.nx ∧ (pX y gn).ct = y.ct ∧ (pX y gn).q = y.q ∧ (pX y gn).sz = y.sz := by
 unfold pX
 cases gn <;> exact ⟨rfl, rfl, rfl, rfl, rfl⟩
theorem pX_ok {y : TS} {gn : Bool} (h : y.Ok) : (pX y gn).Ok := by
 unfold pX
 cases gn
 ·exact h
 ·exact h.wipe
theorem pX_sF {y : TS} {gn : Bool} {n : Nat} (h : y.sd.size = 32) : (pX y gn).sF n = daF y gn n := by
 have h2 := pX_ov (gn := gn) (n := n) h
 unfold TS.ov at h2
 obtain ⟨e1, e2, e3, _⟩ := pX_su y gn
 unfold TS.sF slF daF
 rw [h2, e1, e2, e3]
theorem pX_oF {y : TS} {gn : Bool} {n i : Nat} (h : y.sd.size = 32) : (pX y gn).oF n i = daO y gn n i := by
 have h2 := pX_ov (gn := gn) (n := n) h
 unfold TS.ov at h2
 obtain ⟨e1, e2, e3, e4, e5⟩ := pX_su y gn
 unfold TS.oF opF daO
 rw [h2, e3, e4, e5]
theorem daF_gone {y : TS} {n : Nat} : daF y true n = 180 := rfl
theorem daO_gone {y : TS} {n i : Nat} : daO y true n i = 180 := rfl
theorem pX_sX {y : TS} {gn : Bool} {n : Nat} {s : Yb} (h : y.sd.size = 32) : (pX y gn).sX n s = pX (jS y gn n s) gn := by
 cases gn
 ·rfl
 ·have h1 := pX_sF (gn := true) (n := n) h
  rw [daF_gone] at h1
  unfold TS.sX
  rw [h1, if_neg (by decide)]
  rfl
theorem pX_oX {y : TS} {gn : Bool} {n i : Nat} {c : Yb} (h : y.sd.size = 32) : (pX y gn).oX n i c = pX (jO y gn n i c) gn := by
 cases gn
 ·rfl
 ·have h1 := pX_oF (gn := true) (n := n) (i := i) h
  rw [daO_gone] at h1
  unfold TS.oX
  rw [h1, if_neg (by decide)]
  rfl
theorem pX_sV {y : TS} {gn : Bool} {n : Nat} {s : Yb} (h : y.sd.size = 32) (hs : s.size ≤ 65536) : (pX y gn).sN n s = daN y gn n ∧ (pX y gn).sC n s = daC y gn n s ∧ (pX y gn).sE n s = daF y gn n := by
 unfold TS.sN TS.sC TS.sE daN daC
 rw [pX_sF h]
 cases gn
 ·have e1 := slZ_ok (nx := y.nx) h hs
  unfold pX slN slC
  simp only [Bool.false_eq_true, if_false, e1, if_true]
  refine ⟨trivial, trivial, ?_⟩
  split
  ·exact Eq.symm (by assumption)
  ·rfl
 ·rw [daF_gone]
  exact ⟨rfl, rfl, rfl⟩
theorem jS_daX {y : TS} {gn : Bool} {n : Nat} {s : Yb} (h : y.sd.size = 32) (hs : s.size ≤ 65536) : jS y gn n s = { y with nx := daX y gn n } := by
 cases gn
 ·have e1 := slZ_ok (nx := y.nx) h hs
  have e0 : y.sF n = daF y false n := pX_sF (gn := false) h
  show y.sX n s = _
  unfold TS.sX daX slX
  rw [e0, if_pos e1]
  split <;> rfl
 ·unfold daX
  rw [daF_gone]
  rfl
theorem oV {y : TS} {gn : Bool} {n i : Nat} {c : Yb} (h : y.sd.size = 32) : (pX y gn).oC n i c = (if daO y gn n i = 0 then opC y.rv i c else ⟨#[]⟩) ∧ (pX y gn).oE n i c = (if daO y gn n i = 0 then opZ y.rv i c else daO y gn n i) := by
 unfold TS.oC TS.oE
 rw [pX_oF h]
 cases gn
 ·exact ⟨rfl, rfl⟩
 ·rw [daO_gone]
  exact ⟨rfl, rfl⟩
theorem jO_eq {y : TS} {gn : Bool} {n i : Nat} {c : Yb} (h : y.sd.size = 32) : jO y gn n i c = { y with su := (if daO y gn n i = 0 then opU y.su y.rv i c else y.su), q := (if daO y gn n i = 0 then opQ y.sz y.q y.rv i c else y.q) } := by
 cases gn
 ·have e0 : y.oF n i = daO y false n i := pX_oF (gn := false) h
  show y.oX n i c = _
  unfold TS.oX
  rw [e0]
  split <;> rfl
 ·rw [daO_gone]
  rfl
theorem OkT.frame {w w' : World} {T T' R : List Blk} (h : OkT w w' T T') (hT : There w (T ++ R)) : OkT w w' (T ++ R) (T' ++ R) := by
 have hn := hT.nodup
 rw [List.map_append, List.nodup_append] at hn
 have hlt : ∀ b ∈ R, b.g < w.heap.size := fun b hb => (Array.getElem?_eq_some_iff.1 (hT.at_ b (List.mem_append_right _ hb))).1
 refine ⟨⟨h.grw.os, h.grw.tape, h.grw.output, h.grw.size, fun k hk hr => h.grw.block k hk fun e => hr (by rw [List.map_append]; exact List.mem_append_left _ e)⟩, fun b hb => ?_, ?_, fun b hb => ?_⟩
 ·rcases List.mem_append.1 hb with hb | hb
  ·exact h.at_ b hb
  ·rw [h.grw.block _ (hlt b hb) fun e => hn.2.2 _ e _ (List.mem_map_of_mem hb) rfl]
   exact hT.at_ b (List.mem_append_right _ hb)
 ·rw [List.map_append, List.nodup_append]
  refine ⟨h.nodup, hn.2.1, fun x hx y hy e => ?_⟩
  obtain ⟨b, hb, rfl⟩ := List.mem_map.1 hx
  obtain ⟨c, hc, rfl⟩ := List.mem_map.1 hy
  rcases h.ge b hb with h1 | h1
  ·exact hn.2.2 _ h1 _ (List.mem_map_of_mem hc) e
  ·have := hlt c hc
   omega
 ·rcases List.mem_append.1 hb with hb | hb
  ·rcases h.ge b hb with h1 | h1
   ·exact .inl (by rw [List.map_append]; exact List.mem_append_left _ h1)
   ·exact .inr h1
  ·exact .inl (by rw [List.map_append]; exact List.mem_append_right _ (List.mem_map_of_mem hb))
structure TS.Dk (y : TS) : Prop extends y.Ok where
 k1 : y.sd.size = 32
 k2 : y.rv.size = 32
 ql : y.q.length < 1000000
 qm : ∀ x ∈ y.q, x < 18446744073709551616
section
variable {d : Nat} {y : TS} {gn : Bool} {D : List Blk} {n : Nat}
theorem e_Over (hI : IsD d y gn D) (hy : y.sd.size = 32) (hn : n < 18446744073709551616) (w : World) (hL : Laid w) (hT : There w D) : Cs 11 #[.pointer (some ⟨d, 0, none⟩), .int .u64 (n : Int)] w (.bool ((pX y gn).ov n)) := by
 obtain ⟨sv, Ts, rfl, hS⟩ := hI.out
 rw [pX_ov hy]
 exact c_dOver hn w hL (hT.sub (.cons_cons _ (List.nil_sublist _)))
theorem e_Seal {s : Yb} (hI : IsD d y gn D) (ok : y.Dk) (hn : n < 18446744073709551616) (hs : s.size ≤ 5000) (w : World) (hL : Laid w) (hT : There w D) : Calls Tryz.prog 27 #[.pointer (some ⟨d, 0, none⟩), .int .u64 (n : Int), .string s] w fun r w' => ∃ D', r = .returned (.tuple #[.int .u64 (((pX y gn).sN n s : Nat) : Int), .string ((pX y gn).sC n s), .int .i64 ((pX y gn).sE n s)]) ∧ IsD d (jS y gn n s) gn D' ∧ OkT w w' D D' := by
 obtain ⟨sv, Ts, rfl, hS⟩ := hI.out
 have h1 := ok.n
 have h2 := ok.c
 obtain ⟨e1, e2, e3⟩ := pX_sV (gn := gn) (n := n) ok.k1 (show s.size ≤ 65536 by omega)
 rw [e1, e2, e3, jS_daX ok.k1 (show s.size ≤ 65536 by omega)]
 have hT1 := hT.sub (.cons_cons _ (List.nil_sublist _))
 exact (c_dSeal hn ok.k1 hs (by omega) w hL hT1).mono fun _ _ ⟨he, hg, hz⟩ => ⟨_, he, ⟨sv, Ts, rfl, hS⟩, (OkT.frame (T := [_]) (T' := [_]) ⟨hg, by simpa using hz, by simp, by simp⟩ hT)⟩
theorem e_Open {i : Nat} {c : Yb} (hI : IsD d y gn D) (ok : y.Dk) (hn : n < 18446744073709551616) (hc : c.size ≤ 5000) (w : World) (hL : Laid w) (hT : There w D) : Calls Tryz.prog 29 #[.pointer (some ⟨d, 0, none⟩), .int .u64 (n : Int), .int .u64 (i : Int), .string c] w fun r w' => ∃ D', r = .returned (.tuple #[.string ((pX y gn).oC n i c), .int .i64 ((pX y gn).oE n i c)]) ∧ IsD d (jO y gn n i c) gn D' ∧ OkT w w' D D' := by
 obtain ⟨sv, Ts, rfl, hS⟩ := hI.out
 obtain ⟨e1, e2⟩ := oV (gn := gn) (n := n) (i := i) (c := c) ok.k1
 rw [e1, e2, jO_eq ok.k1]
 exact (c_dOpen hS ok.s1 ok.s2 ok.ql ok.qm hn ok.k2 hc w hL hT).mono fun _ _ ⟨x, he, h1, hk⟩ => ⟨_, he, ⟨x.1, x.2, rfl, h1⟩, hk⟩
end
theorem jS_dk {y : TS} {gn : Bool} {n : Nat} {s : Yb} (h : y.Dk) : (jS y gn n s).Dk ∧ (jS y gn n s).q = y.q := by
 unfold jS
 cases gn
 ·have h1 := h.toOk.seal n s
  unfold TS.sX at h1 ⊢
  simp only [Bool.false_eq_true, if_false]
  split at h1
  ·rename_i hh
   rw [if_pos hh]
   exact ⟨⟨h1, h.k1, h.k2, h.ql, h.qm⟩, rfl⟩
  ·rename_i hh
   rw [if_neg hh]
   exact ⟨h, rfl⟩
 ·exact ⟨h, rfl⟩
theorem jO_dk {y : TS} {gn : Bool} {n i : Nat} {c : Yb} (h : y.Dk) (hi : i < 18446744073709551616) (hl : y.q.length + 1 < 1000000) : (jO y gn n i c).Dk ∧ (jO y gn n i c).q.length ≤ y.q.length + 1 := by
 rw [jO_eq h.k1]
 have hq : (∀ x ∈ (if daO y gn n i = 0 then opQ y.sz y.q y.rv i c else y.q), x < 18446744073709551616) ∧ (if daO y gn n i = 0 then opQ y.sz y.q y.rv i c else y.q).length ≤ y.q.length + 1 := by
  unfold opQ
  split
  ·split
   ·exact ⟨mk_lt h.qm hi, mk_len _ _ _⟩
   ·exact ⟨h.qm, by omega⟩
  ·exact ⟨h.qm, by omega⟩
 exact ⟨⟨⟨h.s1, h.s2, h.c, h.n⟩, h.k1, h.k2, Nat.lt_of_le_of_lt hq.2 hl, hq.1⟩, hq.2⟩
open Go.RowKit
theorem run_ixK {P : Program} {a : Act} {o : Oper} (t elem K : TypeId) (hu : P.underlying t = some (.slice elem)) (hs : (P.info? elem).map (·.size) = some K) (x ix : Operand) (ho : o.op = .indexAddr t x ix) (l : Option Addr) (g off len cap : Nat) (hx : a.eval x = .slice l len cap) (hl : l = some ⟨g, off, none⟩) (k : IntKind) (i : Nat) (hi : a.eval ix = .int k (i : Int)) (hlt : i < len) (w : World) :
  (execOp a.eval o).run P w = .ok (.value (.pointer (some ⟨g, off + i * K, none⟩))) w := by
 subst hl
 cases hq : P.info? elem with
 | none => simp [hq] at hs
 | some info =>
  have hsz : info.size = K := by simpa [hq] using hs
  unfold execOp
  simp [ho, hx, hi, Instr.indexAt, asIntOf, run_underlying hu, sizeOf, typeInfo, hq, hsz, add_at, hlt]
section
variable {P : Program} {ops : Array Oper} {rest : List Oper} {o : Oper} {a : Act} {w : World} {c : Ctx} {L : List Blk} {Q : Exit → Act → World → Prop}
theorem pl_loadO (M : Mem c L w) (hw : Region.wanted o (yielded ops a.tmps) = true) (d : Option Tmp) (hd : o.dst = d) (ty : TypeId) (x : Operand) (ho : o.op = .load ty x) (g off : Nat) (hx : a.eval x = .pointer (some ⟨g, off, none⟩)) (k : Nat) (F : NV) (hp : ∀ w, Mem c L w → ∀ j, j < k → w.cell? ⟨g, off + j, none⟩ = some (F j)) (t : TypeDesc) (hu : P.underlying ty = some t) (ht : t.isRow = true) (hz : (P.info? ty).map (·.size) = some k)
  (h : PL P ops Q rest (a.put d (.agg (av k F))) w) : PL P ops Q (o :: rest) a w := by
 refine pl_to hw d hd (.agg (av k F)) w ?_ h
 unfold execOp
 have hl := run_loadAt_mid (P := P) w g off ty (av k F).toList t (fun j v hv => by
  obtain ⟨hj, rfl⟩ := av_toList_get k F j v hv
  exact hp w M j hj) hu ht (by rw [hz]; simp [av_size])
 simp only [ho, hx, Sem.run_bind, hl, Result.andThen_ok, Sem.run_pure, Array.toArray_toList]
end
structure SlW (K : Nat) (l : List Value) (n : Nat) (v : Value) (T : List Blk) : Prop where
 len : l.length = n * K
 ex : (n = 0 ∧ v = .slice none 0 0 ∧ T = []) ∨ ∃ g cap Z, v = .slice (some ⟨g, 0, none⟩) n cap ∧ n ≤ cap ∧ SB Z (cap * K) l ∧ T = [⟨g, Z⟩]
theorem slw_nil (K : Nat) : SlW K [] 0 (.slice none 0 0) [] := ⟨by simp, .inl ⟨rfl, rfl, rfl⟩⟩
theorem slw_one {K : Nat} {l : List Value} {n : Nat} {v : Value} {T : List Blk} (h : SlW K l n v T) : v.oneCell' = true := by
 rcases h.ex with ⟨_, rfl, _⟩ | ⟨_, _, _, rfl, _⟩ <;> rfl
theorem slw_cells {K : Nat} {l : List Value} {n : Nat} {v : Value} {T : List Blk} (h : SlW K l n v T) : v.cells = #[v] := by
 rcases h.ex with ⟨_, rfl, _⟩ | ⟨_, _, _, rfl, _⟩ <;> rfl
section
variable {P : Program} {ops : Array Oper} {rest : List Oper} {o : Oper} {a : Act} {w : World} {c : Ctx} {L : List Blk} {Q : Exit → Act → World → Prop}
theorem pl_appW (M : Mem c L w) (hw : Region.wanted o (yielded ops a.tmps) = true) (d : Option Tmp) (hd : o.dst = d) (t ty e : TypeId) (K : Nat) (zv : Value) (ht : P.underlying t = some (.slice e)) (hin : InfoK P e K zv) (hzc : zv.cells.size = K) (pre T suf : List Blk) (hp : L = pre ++ (T ++ suf)) (sv : Value) (n : Nat) (l : List Value) (hS : SlW K l n sv T) (hle : n < 1000000) (j gx Tx : Nat) (F : NV) (hj : L[j]? = some ⟨gx, .cells (av K F) Tx⟩) (h1 : ∀ k, k < K → (F k).oneCell' = true)
  (hrun : ∀ w, (execOp a.eval o).run P w = (do pure (Next.value (← Builtin.append_ #[t, t] ty #[sv, .slice (some ⟨gx, 0, none⟩) 1 1]))).run P w)
  (h : ∀ sv' T' w', SlW K (l ++ (List.range K).map F) (n + 1) sv' T' → Mem c (pre ++ (T' ++ suf)) w' → PL P ops Q rest (a.put d sv') w') : PL P ops Q (o :: rest) a w := by
 obtain ⟨info, i1, i2, i3, i4⟩ := hin
 subst i3
 have hnl : ((List.range info.size).map F).length = info.size := by simp
 have hR := M.get j hj
 have hnews : ∀ k u, ((List.range info.size).map F)[k]? = some u → w.cell? ((⟨gx, 0, none⟩ : Addr).add k) = some u := fun k u hu => by
  have hk : k < info.size := by simpa using (List.getElem?_eq_some_iff.1 hu).1
  rw [add_at, Nat.zero_add, cell_av hR hk]
  rw [List.getElem?_map, List.getElem?_range hk] at hu
  exact hu
 have hone : ∀ u ∈ (List.range info.size).map F, u.oneCell' = true := fun u hu => by
  obtain ⟨k, hk, rfl⟩ := List.mem_map.1 hu
  exact h1 k (List.mem_range.1 hk)
 have hsrc : Src P info.size t (.slice (some ⟨gx, 0, none⟩) 1 1) 1 ((List.range info.size).map F) w := Src.ofSlice w ht ⟨gx, 0, none⟩ 1 1 _ (by rw [hnl, Nat.one_mul]) hnews hone
 have hlen := hS.len
 have grow : ∀ (base : Option Addr) (cap : Nat), sv = .slice base n cap → ¬ n < cap → n ≤ cap → (Builtin.firstCells info.size n (.slice base n cap)).run P w.drew = .ok l.toArray w.drew → PL P ops Q (o :: rest) a w := fun base cap hsv hroom hnc hold => by
  have hr := run_append_grow_src (P := P) w t t ty e info zv ht i1 i2 base n cap l hold (.slice (some ⟨gx, 0, none⟩) 1 1) 1 _ hsrc (by omega) (by omega) (growslice_fits (by omega) (by
    have := Nat.mul_le_mul (show n + 1 ≤ 1000000 by omega) i4
    omega))
  have hge := grownCap_ge w (n + 1) cap e
  generalize grownCap w (n + 1) cap e = nc at hr hge
  have hr2 : (execOp a.eval o).run P w = .ok (.value (.slice (some ⟨w.heap.size, 0, none⟩) (n + 1) nc)) (w.drew.alloc (.cells ((l ++ (List.range info.size).map F).toArray ++ Builtin.zeroCells zv.cells (nc - (n + 1))) e)) := by
   rw [hrun, hsv]
   simp only [Sem.run_bind, hr, Result.andThen_ok, Sem.run_pure]
  have hll : (l ++ (List.range info.size).map F).length = (n + 1) * info.size := by rw [List.length_append, hnl, hlen, Nat.succ_mul]
  obtain ⟨q, rfl⟩ : ∃ q, nc = n + 1 + q := ⟨nc - (n + 1), by omega⟩
  have hsz : ((l ++ (List.range info.size).map F).toArray ++ Builtin.zeroCells zv.cells (n + 1 + q - (n + 1))).size = (n + 1 + q) * info.size := by
   rw [Array.size_append, List.size_toArray, hll, size_zeroCells, hzc, Nat.add_sub_cancel_left, ← Nat.add_mul]
  have hcm : (n + 1) * info.size ≤ (n + 1 + q) * info.size := Nat.mul_le_mul_right _ (by omega)
  refine pl_to hw d hd _ _ hr2 (h _ [⟨w.heap.size, _⟩] _ ⟨hll, .inr ⟨w.heap.size, n + 1 + q, _, rfl, by omega, ⟨_, e, (0, 0), rfl, by rw [hll]; exact hcm, by rw [hsz]; exact Nat.le_refl _, fun k hk => ?_, fun k _ => by simp⟩, rfl⟩⟩ (M.drew.mid hp ⟨grown_below (new_below w.drew _) _, ?_, by simp, by simp⟩))
  ·rw [Array.getElem?_append_left (by simpa using hk)]
   simp
  ·simpa using heap_alloc_new w.drew _
 rcases hS.ex with ⟨hn0, hv, rfl⟩ | ⟨g, cap, Z, hv, hnc, hs, rfl⟩
 ·subst hn0
  have hl0 : l = [] := List.length_eq_zero_iff.1 (by simpa using hlen)
  subst hl0
  exact grow none 0 hv (by omega) (by omega) (run_firstCells_none w.drew info.size 0 0 0)
 ·have hz : w.heap[g]? = some Z := (M.thereM hp).at_ ⟨g, Z⟩ (by simp)
  by_cases hroom : n < cap
  ·obtain ⟨cs, T, fr, hZ, h4, h5, h6, h7⟩ := hs.ex
   have hcm : n * info.size + info.size ≤ cap * info.size := by rw [← Nat.succ_mul]; exact Nat.mul_le_mul_right _ hroom
   obtain ⟨Z', h2, h3⟩ := hs.sets ((List.range info.size).map F) (by rw [hnl, hlen]; exact hcm) hz
   have hg := hz
   rw [hZ] at hg
   have hr := run_append_room_src (P := P) w t t ty e info ht i1 g 0 n cap (.slice (some ⟨gx, 0, none⟩) 1 1) 1 _ hsrc hroom (fun k hk => by
     rw [hnl] at hk
     rw [Nat.zero_add]
     unfold World.cell?
     rw [hg]
     simp
     omega) (fun k hk => by
     rw [hnl] at hk
     rw [Nat.zero_add]
     unfold World.frozen?
     rw [hg]
     exact h7 _ (by show n * info.size + k < cap * info.size; omega))
   rw [Nat.zero_add, ← hlen] at hr
   have hr2 : (execOp a.eval o).run P w = .ok (.value (.slice (some ⟨g, 0, none⟩) (n + 1) cap)) (w.setCells g l.length ((List.range info.size).map F)) := by
    rw [hrun, hv]
    simp only [Sem.run_bind, hr, Result.andThen_ok, Sem.run_pure]
   exact pl_to hw d hd _ _ hr2 (h _ [⟨g, Z'⟩] _ ⟨by rw [List.length_append, hnl, hlen, Nat.succ_mul], .inr ⟨g, cap, Z', rfl, by omega, h3, rfl⟩⟩ (M.mid hp ⟨grown_setCells g _ _ _, by simpa using h2, by simp, by simp⟩))
  ·exact grow _ cap hv hroom hnc (run_firstCells_some w.drew info.size n ⟨g, 0, none⟩ n cap l hlen (fun k u hu => by rw [add_at, Nat.zero_add]; exact hs.cell (W := w.drew) hz hu))
end
theorem There.up {w w' : World} {T : List Blk} (h : There w T) (hb : Below w.heap.size w w') : There w' T := ⟨(okT_below h hb).at_, h.nodup, h.ne⟩
def ix (g : Nat → Bool) (n : Nat) : Int := match (List.range n).find? g with
 | none => -1
 | some j => (j : Int)
theorem ix_no {g : Nat → Bool} {n : Nat} (h : ∀ j, j < n → g j = false) : ix g n = -1 := by
 have e : (List.range n).find? g = none := List.find?_eq_none.2 fun x hx => by rw [h x (List.mem_range.1 hx)]; decide
 unfold ix
 rw [e]
theorem ix_at {g : Nat → Bool} {n j : Nat} (hj : j < n) (hg : g j = true) (h : ∀ i, i < j → g i = false) : ix g n = (j : Int) := by
 have e : (List.range n).find? g = some j := by
  rw [List.find?_range_eq_some]
  exact ⟨hg, List.mem_range.2 hj, fun i hi => by rw [h i hi]; rfl⟩
 unfold ix
 rw [e]
theorem step_no {g : Nat → Bool} {j : Nat} (h : ∀ i, i < j → g i = false) (hg : g j = false) : ∀ i, i < j + 1 → g i = false := fun i hi => by
 by_cases e : i = j
 ·subst e
  exact hg
 ·exact h i (by omega)
theorem first_of (g : Nat → Bool) : ∀ n, (∀ j, j < n → g j = false) ∨ ∃ j, j < n ∧ g j = true ∧ ∀ i, i < j → g i = false
 | 0 => .inl fun _ h => absurd h (by omega)
 | n + 1 => by
  rcases first_of g n with h | ⟨j, h1, h2, h3⟩
  ·cases e : g n with
   | false => exact .inl (step_no h e)
   | true => exact .inr ⟨n, by omega, e, h⟩
  ·exact .inr ⟨j, by omega, h2, h3⟩
theorem ix_cases (g : Nat → Bool) (n : Nat) : (ix g n = -1 ∧ ∀ j, j < n → g j = false) ∨ ∃ j, j < n ∧ ix g n = (j : Int) ∧ g j = true ∧ ∀ i, i < j → g i = false := by
 rcases first_of g n with h | ⟨j, h1, h2, h3⟩
 ·exact .inl ⟨ix_no h, h⟩
 ·exact .inr ⟨j, h1, ix_at h1 h2 h3, h2, h3⟩
open Go.RowKit
theorem c_hasS {id : Nat} (w : World) (hL : Laid w) : Calls Tryz.prog 58 #[.int .u32 (id : Int)] w fun r w' => ∃ c, r = .returned (.func (.func 74) #[] #[.pointer (some ⟨c, 0, none⟩)]) ∧ w.heap.size ≤ c ∧ w'.heap[c]? = some (.cells (av 1 (ls [.int .u32 (id : Int)])) 67) ∧ Below w.heap.size w w' := by
 go_enter Tryz.func58, Tryz.ntmps58
 have M := Mem.start hL
 refine sR <| pN M 1 (.cells (av 1 (ls [.int .u32 (id : Int)])) 67) fun g1 u1 M => ?_
 replace M : Mem ⟨w, []⟩ [⟨g1, .cells (av 1 (ls [.int .u32 (id : Int)])) 67⟩] u1 := M
 refine rV 1 <| nT <| sq <| wp_ret ?_
 exact bodyPost_ret (v := .func (.func 74) #[] #[.pointer (some ⟨g1, 0, none⟩)]) (results_tmp1 Tryz.results58 _ _ _ (by kernel_rfl)) (by kernel_rfl) ⟨_, rfl, ((M.ge _ (List.mem_singleton.2 rfl)).resolve_right (by simp)), M.get 0 rfl, below_grown M.old⟩
theorem c_has1 {x t c id : Nat} (w : World) (hL : Laid w) (hc : w.cell? ⟨c, 0, none⟩ = some (.int .u32 (id : Int))) : Cs 74 #[.agg (av 2 (ls [.int .u32 (x : Int), .pointer (some ⟨t, 0, none⟩)])), .pointer (some ⟨c, 0, none⟩)] w (.bool (decide (x = id))) := by
 go_enter Tryz.func74, Tryz.ntmps74
 have M := Mem.start hL
 refine sR <| pN M 2 (.cells (av 2 (ls [.int .u32 (x : Int), .pointer (some ⟨t, 0, none⟩)])) 113) fun g1 u1 M => ?_
 replace M : Mem ⟨w, []⟩ [⟨g1, .cells (av 2 (ls [.int .u32 (x : Int), .pointer (some ⟨t, 0, none⟩)])) 113⟩] u1 := M
 refine rV 1 <| nT <| sR <| rV 1 <| ZE M 5 0 0 <| pE M 6 c 0 (.int .u32 (id : Int)) (fun w M => M.oldc hc (by simp)) ?_
 by_cases c0 : (x : Int) = (id : Int)
 ·refine pH 7 (.bool true) (jT ((x : Int) = (id : Int)) (c0)) <| rV 1 <| nT <| wp_ret ?_
  have e0 : decide (x = id) = true := decide_eq_true (by omega)
  exact bodyPost_ret (v := .bool true) (results_tmp1 Tryz.results74 _ _ _ (by kernel_rfl)) (by kernel_rfl) ⟨by rw [e0], below_grown M.old⟩
 ·refine pH 7 (.bool false) (jF ((x : Int) = (id : Int)) (c0)) <| rV 1 <| nT <| wp_ret ?_
  have e0 : decide (x = id) = false := decide_eq_false (by omega)
  exact bodyPost_ret (v := .bool false) (results_tmp1 Tryz.results74 _ _ _ (by kernel_rfl)) (by kernel_rfl) ⟨by rw [e0], below_grown M.old⟩
theorem up2 {w w1 w2 : World} (h1 : Below w.heap.size w w1) (h2 : Below w1.heap.size w1 w2) : Below w.heap.size w w2 := ⟨h2.os.trans h1.os, h2.tape.trans h1.tape, h2.output.trans h1.output, Nat.le_trans h1.size h2.size, fun k hk => (h2.block k (Nat.lt_of_lt_of_le hk h1.size)).trans (h1.block k hk)⟩
theorem c_sthere {p : Nat} (w : World) (hL : Laid w) (hp : w.cell? ⟨p, 0, none⟩ = some (.bool true)) : Cs 43 #[.pointer (some ⟨p, 0, none⟩)] w (.bool true) := by
 go_enter Tryz.func43, Tryz.ntmps43
 have M := Mem.start hL
 refine sq <| sR <| rV 6 <| pl_cell M (want_on 2 true rfl 5 rfl (by kernel_rfl)) (some 9) rfl 4 _ rfl p 0 (by kernel_rfl) (.bool true) (fun _ => by kernel_rfl) (fun w M => M.oldc hp (by simp)) <| rV 2 <| nT <| wp_ret ?_
 exact b1 M
theorem c_index {φ : FuncId} {c : Nat} {g : Nat → Bool} (hE : ∀ args w, (callFunc φ args).run Tryz.prog w = .ok (.enter φ args) w) {l : Option Addr} {b o1 n k : Nat} {I : Nat → Nat} {J : Nat → Nat} (hl : 0 < n → l = some ⟨b, o1, none⟩) (hn : n < 1000000) (w : World) (hL : Laid w) (hI : ∀ j, j < n → w.cell? ⟨b, o1 + j * 2 + 0, none⟩ = some (.int .u32 ((I j : Nat) : Int))) (hJ : ∀ j, j < n → w.cell? ⟨b, o1 + j * 2 + 1, none⟩ = some (.pointer (some ⟨J j, 0, none⟩))) (hF : ∀ j, j < n → ∀ w', Below w.heap.size w w' → Laid w' → Calls Tryz.prog φ #[.agg (av 2 (ls [.int .u32 ((I j : Nat) : Int), .pointer (some ⟨(J j), 0, none⟩)])), .pointer (some ⟨c, 0, none⟩)] w' fun r w'' => r = .returned (.bool (g j)) ∧ Below w'.heap.size w' w'') : Cs 57 #[.slice l n k, .func (.func φ) #[] #[.pointer (some ⟨c, 0, none⟩)]] w (.int .i64 (ix g n)) := by
 go_enter Tryz.func57, Tryz.ntmps57
 have M := Mem.start hL
 refine sq <| wp_seq <| sq <| wp_block ?_
 refine au_loop (fun j a w' => ∃ (v1 : NV) , a = (fm ([.slice l n k, .func (.func φ) #[] #[.pointer (some ⟨c, 0, none⟩)], undef, undef, v1 4, v1 5, .slice l n k, .int .i64 (n : Int), .int .i64 (j : Int)] ++ vr v1 9 10)) ∧ Mem ⟨w, []⟩ [] w' ∧ (∀ i, i < j → g i = false)) n ⟨fun k_ => ([.int .i64 0, undef, undef, undef, undef, undef, undef, undef, undef, undef, undef, undef, undef, undef, undef] : List Value).getD (k_ - 4) undef, by kernel_rfl, by simpa only [List.append_assoc, List.cons_append, List.nil_append, List.append_nil] using M, fun _ h => absurd h (by omega)⟩ ?_ ?_
 ·intro j a u0 hj hI
  obtain ⟨v1, rfl, M, hh⟩ := hI
  refine sR <| ZT 9 ((j : Int) < (n : Int)) <| nT <| wp_seq <| cT <| wp_skip <| au_then <| wp_seq <| wp_block <| sq <| sR <| rV 3 <| pH 14 (.pointer (some ⟨b, (o1 + j * 2), none⟩)) (run_ixK 100 113 2 Tryz.underlying100 inz113 _ _ rfl l b o1 n k (by kernel_rfl) (hl (by omega)) .i64 j (by kernel_rfl) (by omega)) ?_
  refine pl_loadO M (want_no rfl) (some 15) rfl 113 _ rfl b (o1 + j * 2) (by kernel_rfl) 2 (ls [.int .u32 ((I j : Nat) : Int), .pointer (some ⟨(J j), 0, none⟩)]) (fun w M k hk => ?_) _ Tryz.underlying113 rfl inz113 ?_
  ·match k, hk with
   | 0, _ => exact M.oldc (hI j (by omega)) (by simp)
   | 1, _ => exact M.oldc (hJ j (by omega)) (by simp)
  refine pl_call M (want_no rfl) (some 16) rfl φ (#[.agg (av 2 (ls [.int .u32 ((I j : Nat) : Int), .pointer (some ⟨(J j), 0, none⟩)])), .pointer (some ⟨c, 0, none⟩)]) (.bool (g j)) (fun w => Eq.trans (b := (callFunc φ #[.agg (av 2 (ls [.int .u32 ((I j : Nat) : Int), .pointer (some ⟨(J j), 0, none⟩)])), .pointer (some ⟨c, 0, none⟩)]).run Tryz.prog w) (by kernel_rfl) (hE _ w)) (fun w M => hF j hj w (below_grown M.old) M.laid) fun u1 M => nT ?_
  rcases Bool.eq_false_or_eq_true (g j) with c0 | c0
  ·rw [c0]
   refine cT <| sq <| wp_ret <| au_block_ret <| au_then_ret <| au_then_ret <| au_block_ret <| au_then_ret ?_
   have e0 : (ix g n) = (j : Int) := ix_at hj c0 hh
   exact bodyPost_ret (v := .int .i64 (j : Int)) (results_tmp1 Tryz.results57 _ _ _ (by kernel_rfl)) (by kernel_rfl) ⟨by rw [e0], below_grown M.old⟩
  ·rw [c0]
   refine cF <| wp_skip <| au_block <| au_then <| rg_lit ?_
   refine pH 18 (.int .i64 ((j + 1 : Nat) : Int)) (fun w => Eq.trans (b := .ok (.value (.int .i64 (IntKind.wrap .i64 ((j : Int) + 1)))) w) (by kernel_rfl) (by rw [wrap64 (by omega) (by omega)]; rfl)) ?_
   refine rV 1 <| nT ?_
   exact ⟨fun k_ => ([v1 4, .int .i64 (j : Int), undef, undef, undef, .bool true, .int .i64 (j : Int), .func (.func φ) #[] #[.pointer (some ⟨c, 0, none⟩)], .slice l n k, .int .i64 (j : Int), .pointer (some ⟨b, (o1 + j * 2), none⟩), .agg (av 2 (ls [.int .u32 ((I j : Nat) : Int), .pointer (some ⟨(J j), 0, none⟩)])), .bool false, v1 17, .int .i64 ((j + 1 : Nat) : Int)] : List Value).getD (k_ - 4) undef, by kernel_rfl, M, step_no (g := g) hh c0⟩
 ·intro a u0 hI
  obtain ⟨v1, rfl, M, hh⟩ := hI
  refine sR <| ZF 9 ((n : Int) < (n : Int)) <| nT <| wp_seq <| cF <| wp_exit <| au_then_exit <| au_then_exit <| au_block_exit <| au_then <| sq <| wp_ret ?_
  have e0 : (ix g n) = -1 := ix_no hh
  exact bodyPost_ret (v := .int .i64 (-1)) (results_tmp1 Tryz.results57 _ _ _ (by kernel_rfl)) (by kernel_rfl) ⟨by rw [e0], below_grown M.old⟩
theorem c_contains {φ : FuncId} {c : Nat} {g : Nat → Bool} (hE : ∀ args w, (callFunc φ args).run Tryz.prog w = .ok (.enter φ args) w) {l : Option Addr} {b o1 n k : Nat} {I : Nat → Nat} {J : Nat → Nat} (hl : 0 < n → l = some ⟨b, o1, none⟩) (hn : n < 1000000) (w : World) (hL : Laid w) (hI : ∀ j, j < n → w.cell? ⟨b, o1 + j * 2 + 0, none⟩ = some (.int .u32 ((I j : Nat) : Int))) (hJ : ∀ j, j < n → w.cell? ⟨b, o1 + j * 2 + 1, none⟩ = some (.pointer (some ⟨J j, 0, none⟩))) (hF : ∀ j, j < n → ∀ w', Below w.heap.size w w' → Laid w' → Calls Tryz.prog φ #[.agg (av 2 (ls [.int .u32 ((I j : Nat) : Int), .pointer (some ⟨(J j), 0, none⟩)])), .pointer (some ⟨c, 0, none⟩)] w' fun r w'' => r = .returned (.bool (g j)) ∧ Below w'.heap.size w' w'') : Cs 62 #[.slice l n k, .func (.func φ) #[] #[.pointer (some ⟨c, 0, none⟩)]] w (.bool (decide (0 ≤ ix g n))) := by
 go_enter Tryz.func62, Tryz.ntmps62
 have M := Mem.start hL
 refine sq <| sR <| rV 2 <| ZC M 7 (fun w M => c_index (c := c) (k := k) hE hl hn w M.laid (fun j hj => M.oldc (hI j hj) (by simp)) (fun j hj => M.oldc (hJ j hj) (by simp)) (fun j hj w' hb => hF j hj w' (up2 (below_grown M.old) hb))) fun u1 M => ?_
 by_cases c0 : (ix g n) < 0
 ·refine ZF 8 (0 ≤ (ix g n)) <| rV 1 <| nT <| wp_ret ?_
  have e0 : decide (0 ≤ ix g n) = false := decide_eq_false (by omega)
  exact bodyPost_ret (v := .bool false) (results_tmp1 Tryz.results62 _ _ _ (by kernel_rfl)) (by kernel_rfl) ⟨by rw [e0], below_grown M.old⟩
 ·refine ZT 8 (0 ≤ (ix g n)) <| rV 1 <| nT <| wp_ret ?_
  have e0 : decide (0 ≤ ix g n) = true := decide_eq_true (by omega)
  exact bodyPost_ret (v := .bool true) (results_tmp1 Tryz.results62 _ _ _ (by kernel_rfl)) (by kernel_rfl) ⟨by rw [e0], below_grown M.old⟩
theorem c_find {p id : Nat} {l : Option Addr} {b o1 n k : Nat} {I : Nat → Nat} (hl : 0 < n → l = some ⟨b, o1, none⟩) (hn : n < 1000000) (w : World) (hL : Laid w) (hs : w.cell? ⟨p, 0, none⟩ = some (.slice l n k)) (hI : ∀ j, j < n → w.cell? ⟨b, o1 + j * 2 + 0, none⟩ = some (.int .u32 ((I j : Nat) : Int))) : Cs 34 #[.pointer (some ⟨p, 0, none⟩), .int .u32 (id : Int)] w (.int .i64 (ix (fun j => decide (I j = id)) n)) := by
 go_enter Tryz.func34, Tryz.ntmps34
 have M := Mem.start hL
 refine sq <| wp_seq <| sq <| wp_block ?_
 refine au_loop (fun j a w' => ∃ (v1 : NV) , a = (fm ([.pointer (some ⟨p, 0, none⟩), .int .u32 (id : Int), undef, undef, v1 4, .int .i64 (j : Int)] ++ vr v1 6 20)) ∧ Mem ⟨w, []⟩ [] w' ∧ (∀ i, i < j → (fun j => decide (I j = id)) i = false)) n ⟨fun k_ => ([.int .i64 0, undef, undef, undef, undef, undef, undef, undef, undef, undef, undef, undef, undef, undef, undef, undef, undef, undef, undef, undef, undef, undef] : List Value).getD (k_ - 4) undef, by kernel_rfl, by simpa only [List.append_assoc, List.cons_append, List.nil_append, List.append_nil] using M, fun _ h => absurd h (by omega)⟩ ?_ ?_
 ·intro j a u0 hj hI
  obtain ⟨v1, rfl, M, hh⟩ := hI
  refine wp_seq <| sR <| rV 4 <| pE M 10 p 0 (.slice l n k) (fun w M => M.oldc hs (by simp)) <| rV 1 <| ZT 12 ((j : Int) < (n : Int)) <| nT <| cT <| wp_skip <| au_then <| wp_seq <| wp_block <| sR <| rV 3 <| pE M 18 p 0 (.slice l n k) (fun w M => M.oldc hs (by simp)) <| rV 1 ?_
  refine pH 20 (.pointer (some ⟨b, (o1 + j * 2), none⟩)) (run_ixK 59 72 2 Tryz.underlying59 inz72 _ _ rfl l b o1 n k (by kernel_rfl) (hl (by omega)) .i64 j (by kernel_rfl) (by omega)) <| rV 1 <| pE M 22 b ((o1 + j * 2) + 0) (.int .u32 ((I j : Nat) : Int)) (fun w M => M.oldc (hI j (by omega)) (by simp)) <| rV 1 ?_
  by_cases c0 : ((I j : Nat) : Int) = (id : Int)
  ·refine pH 24 (.bool true) (jT (((I j : Nat) : Int) = (id : Int)) (c0)) <| nT <| cT <| sq <| wp_ret <| au_block_ret <| au_then_ret <| au_then_ret <| au_block_ret <| au_then_ret ?_
   have e0 : (ix (fun j => decide (I j = id)) n) = (j : Int) := ix_at hj (decide_eq_true (by omega)) hh
   exact bodyPost_ret (v := .int .i64 (j : Int)) (results_tmp1 Tryz.results34 _ _ _ (by kernel_rfl)) (by kernel_rfl) ⟨by rw [e0], below_grown M.old⟩
  ·refine pH 24 (.bool false) (jF (((I j : Nat) : Int) = (id : Int)) (c0)) <| nT <| cF <| wp_skip <| au_block <| au_then <| rg_lit <| rV 1 ?_
   refine pH 14 (.int .i64 ((j + 1 : Nat) : Int)) (fun w => Eq.trans (b := .ok (.value (.int .i64 (IntKind.wrap .i64 ((j : Int) + 1)))) w) (by kernel_rfl) (by rw [wrap64 (by omega) (by omega)]; rfl)) ?_
   refine rV 1 <| nT ?_
   exact ⟨fun k_ => ([v1 4, undef, .int .i64 (j : Int), .pointer (some ⟨p, 0, none⟩), .pointer (some ⟨p, 0, none⟩), .pointer (some ⟨p, 0, none⟩), .slice l n k, .int .i64 (n : Int), .bool true, .int .i64 (j : Int), .int .i64 ((j + 1 : Nat) : Int), .pointer (some ⟨p, 0, none⟩), .pointer (some ⟨p, 0, none⟩), .pointer (some ⟨p, 0, none⟩), .slice l n k, .int .i64 (j : Int), .pointer (some ⟨b, (o1 + j * 2), none⟩), .pointer (some ⟨b, ((o1 + j * 2) + 0), none⟩), .int .u32 ((I j : Nat) : Int), .int .u32 (id : Int), .bool false, v1 25] : List Value).getD (k_ - 4) undef, by kernel_rfl, M, step_no (g := (fun j => decide (I j = id))) hh (decide_eq_false (by omega))⟩
 ·intro a u0 hI
  obtain ⟨v1, rfl, M, hh⟩ := hI
  refine wp_seq <| sR <| rV 4 <| pE M 10 p 0 (.slice l n k) (fun w M => M.oldc hs (by simp)) <| rV 1 <| ZF 12 ((n : Int) < (n : Int)) <| nT <| cF <| wp_exit <| au_then_exit <| au_then_exit <| au_block_exit <| au_then <| sq <| wp_ret ?_
  have e0 : (ix (fun j => decide (I j = id)) n) = -1 := ix_no hh
  exact bodyPost_ret (v := .int .i64 (-1)) (results_tmp1 Tryz.results34 _ _ _ (by kernel_rfl)) (by kernel_rfl) ⟨by rw [e0], below_grown M.old⟩
open Go.RowKit
theorem info32 : InfoK Tryz.prog 67 1 (.int .u32 0) := infoK (b := 4) (by kernel_rfl) (by kernel_rfl) (by kernel_rfl) (by decide)
def vI (I : Nat → Nat) : Nat → List Value
 | 0 => []
 | j + 1 => vI I j ++ [.int .u32 ((I j : Nat) : Int)]
def lx (g : Nat → Bool) (n : Nat) : Int := if ix (fun j => g (n - 1 - j)) n = -1 then -1 else (n : Int) - 1 - ix (fun j => g (n - 1 - j)) n
theorem lx_no {g : Nat → Bool} {n : Nat} (h : ∀ j, j < n → g (n - 1 - j) = false) : lx g n = -1 := by
 unfold lx
 rw [if_pos (ix_no (g := fun j => g (n - 1 - j)) h)]
theorem lx_at {g : Nat → Bool} {n j i : Nat} (hi : i + j + 1 = n) (hg : g i = true) (h : ∀ k, k < j → g (n - 1 - k) = false) : lx g n = (i : Int) := by
 have e : ix (fun j => g (n - 1 - j)) n = (j : Int) := ix_at (by omega) (show g (n - 1 - j) = true by rw [show n - 1 - j = i by omega]; exact hg) h
 unfold lx
 rw [e, if_neg (by omega)]
 omega
theorem c_IDs {p : Nat} {l : Option Addr} {b o1 n k : Nat} {I : Nat → Nat} {J : Nat → Nat} (hl : 0 < n → l = some ⟨b, o1, none⟩) (hn : n < 1000000) (w : World) (hL : Laid w) (hp : w.cell? ⟨p, 0, none⟩ = some (.bool true)) (hs : w.cell? ⟨p, 1, none⟩ = some (.slice l n k)) (hI : ∀ j, j < n → w.cell? ⟨b, o1 + j * 2 + 0, none⟩ = some (.int .u32 ((I j : Nat) : Int))) (hJ : ∀ j, j < n → w.cell? ⟨b, o1 + j * 2 + 1, none⟩ = some (.pointer (some ⟨J j, 0, none⟩))) : Calls Tryz.prog 19 #[.pointer (some ⟨p, 0, none⟩)] w fun r w' => ∃ x : Value × List Blk, r = .returned x.1 ∧ SlW 1 (vI I n) n x.1 x.2 ∧ OkT w w' [] x.2 := by
 go_enter Tryz.func19, Tryz.ntmps19
 have M := Mem.start hL
 refine sq <| wp_seq <| sR <| rV 1 <| ZC M 7 (fun w M => c_sthere w M.laid (M.oldc hp (by simp))) fun u1 M => rV 1 <| nT <| cF <| wp_skip <| au_then <| sq <| wp_seq <| sR <| rV 3 <| pE M 12 p 1 (.slice l n k) (fun w M => M.oldc hs (by simp)) <| rV 2 ?_
 refine nT <| wp_block ?_
 refine au_loop (fun j a w' => ∃ (v1 : NV) (sv : Value) (Ts : List Blk), a = (fm ([.pointer (some ⟨p, 0, none⟩), undef, .slice none 0 0, sv, undef, v1 5, .pointer (some ⟨p, 0, none⟩), .bool true, .bool false, .pointer (some ⟨p, 0, none⟩), .pointer (some ⟨p, 0, none⟩), .pointer (some ⟨p, 1, none⟩), .slice l n k, .int .i64 (n : Int), .int .i64 (j : Int)] ++ vr v1 15 9 ++ [undef])) ∧ Mem ⟨w, []⟩ (Ts) w' ∧ (SlW 1 (vI I j) j sv Ts)) n ⟨fun k_ => ([undef, undef, undef, undef, undef, undef, undef, undef, undef, undef, undef, undef, undef, undef, undef, undef, undef, undef, undef] : List Value).getD (k_ - 5) undef, .slice none 0 0, [], by kernel_rfl, by simpa only [List.append_assoc, List.cons_append, List.nil_append, List.append_nil] using M, slw_nil 1⟩ ?_ ?_
 ·intro j a u0 hj hI
  obtain ⟨v1, sv, Ts, rfl, M, hS⟩ := hI
  refine sR <| ZT 15 ((j : Int) < (n : Int)) <| nT <| wp_seq <| cT <| wp_skip <| au_then <| wp_seq <| wp_block <| sR <| pH 16 (.pointer (some ⟨b, (o1 + j * 2), none⟩)) (run_ixK 100 113 2 Tryz.underlying100 inz113 _ _ rfl l b o1 n k (by kernel_rfl) (hl (by omega)) .i64 j (by kernel_rfl) (by omega)) ?_
  refine pl_loadO M (want_no rfl) (some 17) rfl 113 _ rfl b (o1 + j * 2) (by kernel_rfl) 2 (ls [.int .u32 ((I j : Nat) : Int), .pointer (some ⟨(J j), 0, none⟩)]) (fun w M k hk => ?_) _ Tryz.underlying113 rfl inz113 ?_
  ·match k, hk with
   | 0, _ => exact M.oldc (hI j (by omega)) (by simp)
   | 1, _ => exact M.oldc (hJ j (by omega)) (by simp)
  refine pN M 5 (.cells (av 2 (ls [.int .u32 0, .pointer none])) 113) fun g1 u2 M => ?_
  replace M := M.front
  replace M : Mem ⟨w, []⟩ (⟨g1, .cells (av 2 (ls [.int .u32 0, .pointer none])) 113⟩ :: Ts) u2 := M
  refine pl_put M (want_no rfl) rfl 113 _ _ rfl 0 g1 0 (by kernel_rfl) 2 113 (ls [.int .u32 0, .pointer none]) rfl 2 (ls [.int .u32 ((I j : Nat) : Int), .pointer (some ⟨(J j), 0, none⟩)]) (ls [.int .u32 ((I j : Nat) : Int), .pointer (some ⟨(J j), 0, none⟩)]) (by kernel_rfl) inz113 (by decide) (one_ls _ rfl) (fun j hj => by rw [if_pos (by omega), Nat.sub_zero]) fun u3 M => ?_
  replace M : Mem ⟨w, []⟩ (⟨g1, .cells (av 2 (ls [.int .u32 ((I j : Nat) : Int), .pointer (some ⟨(J j), 0, none⟩)])) 113⟩ :: Ts) u3 := M
  refine nT <| rg_lit <| rV 2 <| ZE M 20 0 0 <| ZM M 21 (fun g2 => .slice (some ⟨g2, 0, none⟩) 1 1) (.cells (av 1 (ls [.int .u32 ((I j : Nat) : Int)])) 67) fun g2 u4 M => ?_
  replace M := M.front
  replace M : Mem ⟨w, []⟩ (⟨g2, .cells (av 1 (ls [.int .u32 ((I j : Nat) : Int)])) 67⟩ :: ⟨g1, .cells (av 2 (ls [.int .u32 ((I j : Nat) : Int), .pointer (some ⟨(J j), 0, none⟩)])) 113⟩ :: Ts) u4 := M
  refine pl_appW M (want_no rfl) (some 22) rfl 70 70 67 1 (.int .u32 0) Tryz.underlying70 info32 rfl [⟨g2, .cells (av 1 (ls [.int .u32 ((I j : Nat) : Int)])) 67⟩, ⟨g1, .cells (av 2 (ls [.int .u32 ((I j : Nat) : Int), .pointer (some ⟨(J j), 0, none⟩)])) 113⟩] Ts [] (by simp only [List.append_assoc, List.cons_append, List.nil_append, List.append_nil]) sv j (vI I j) hS (by omega) 0 g2 67 (ls [.int .u32 ((I j : Nat) : Int)]) rfl (one_ls _ rfl) (fun _ => by kernel_rfl) ?_
  intro sv2 T2 u5 hS2 M
  replace M : Mem ⟨w, []⟩ (⟨g2, .cells (av 1 (ls [.int .u32 ((I j : Nat) : Int)])) 67⟩ :: ⟨g1, .cells (av 2 (ls [.int .u32 ((I j : Nat) : Int), .pointer (some ⟨(J j), 0, none⟩)])) 113⟩ :: T2) u5 := by simpa only [List.append_assoc, List.cons_append, List.nil_append, List.append_nil] using M
  refine rV 1 <| pl_nil <| au_block <| au_then <| rg_lit ?_
  refine pH 23 (.int .i64 ((j + 1 : Nat) : Int)) (fun w => Eq.trans (b := .ok (.value (.int .i64 (IntKind.wrap .i64 ((j : Int) + 1)))) w) (by kernel_rfl) (by rw [wrap64 (by omega) (by omega)]; rfl)) ?_
  refine rV 1 <| nT ?_
  exact ⟨fun k_ => ([.pointer (some ⟨g1, 0, none⟩), undef, undef, undef, undef, undef, undef, undef, undef, undef, .bool true, .pointer (some ⟨b, (o1 + j * 2), none⟩), .agg (av 2 (ls [.int .u32 ((I j : Nat) : Int), .pointer (some ⟨(J j), 0, none⟩)])), sv, .pointer (some ⟨g1, 0, none⟩), .int .u32 ((I j : Nat) : Int), .slice (some ⟨g2, 0, none⟩) 1 1, sv2, .int .i64 ((j + 1 : Nat) : Int)] : List Value).getD (k_ - 5) undef, sv2, T2, by kernel_rfl, (M.drop (.cons _ (.cons _ (List.Sublist.refl _)))), hS2⟩
 ·intro a u0 hI
  obtain ⟨v1, sv, Ts, rfl, M, hS⟩ := hI
  refine sR <| ZF 15 ((n : Int) < (n : Int)) <| nT <| wp_seq <| cF <| wp_exit <| au_then_exit <| au_then_exit <| au_block_exit <| au_then <| sq <| wp_ret ?_
  exact bodyPost_ret (v := sv) (results_tmp1 Tryz.results19 _ _ _ (by kernel_rfl)) (by kernel_rfl) ⟨⟨_, _⟩, rfl, hS, M.okT0⟩
theorem c_ids {l l2 : Option Addr} {b o1 n k b2 o2 k2 : Nat} {I : Nat → Nat} (hl : 0 < n → l = some ⟨b, o1, none⟩) (hl2 : 0 < n → l2 = some ⟨b2, o2, none⟩) (hn : n < 1000000) (w : World) (hL : Laid w) (hI : ∀ j, j < n → w.cell? ⟨b, o1 + j * 1, none⟩ = some (.int .u32 ((I j : Nat) : Int))) (hI2 : ∀ j, j < n → w.cell? ⟨b2, o2 + j * 1, none⟩ = some (.int .u32 ((I j : Nat) : Int))) : Cs 18 #[.slice l n k, .slice l2 n k2] w (.bool true) := by
 go_enter Tryz.func18, Tryz.ntmps18
 have M := Mem.start hL
 refine sq <| wp_seq <| sR <| rV 4 <| pH 10 (.bool false) (fun w => Eq.trans (b := .ok (.value (.bool (!(decide ((n : Int) = (n : Int)))))) w) (by kernel_rfl) (by rw [decide_eq_true rfl]; rfl)) <| nT <| cF <| wp_skip <| au_then <| wp_seq <| sq <| wp_block ?_
 refine au_loop (fun j a w' => ∃ (v1 : NV) , a = (fm ([.slice l n k, .slice l2 n k2, undef, undef, v1 4, .int .i64 (j : Int), .slice l n k, .int .i64 (n : Int), .slice l2 n k2, .int .i64 (n : Int), .bool false] ++ vr v1 11 15)) ∧ Mem ⟨w, []⟩ [] w') n ⟨fun k_ => ([.bool false, undef, undef, undef, undef, undef, undef, undef, undef, undef, undef, undef, undef, undef, undef, undef, undef, undef, undef, undef, undef, undef] : List Value).getD (k_ - 4) undef, by kernel_rfl, by simpa only [List.append_assoc, List.cons_append, List.nil_append, List.append_nil] using M⟩ ?_ ?_
 ·intro j a u0 hj hI
  obtain ⟨v1, rfl, M⟩ := hI
  refine wp_seq <| sR <| rV 3 <| ZT 14 ((j : Int) < (n : Int)) <| nT <| cT <| wp_skip <| au_then <| wp_seq <| wp_block <| wp_seq <| rg_held M [] 8 rfl (by kernel_rfl) (by kernel_rfl) (fun _ _ d _ _ h => by cases d <;> exact h) fun u1 M => ?_
  replace M : Mem ⟨w, []⟩ [] u1 := M
  refine qV M 0 17 (.slice l n k) <| qV M 1 18 (.int .i64 (j : Int)) <| hl_val M 2 rfl (by decide) (by kernel_rfl) (by kernel_rfl) (want_no rfl) (some 19) rfl (.pointer (some ⟨b, (o1 + j * 1), none⟩)) (fun w _ => (run_ixK 70 67 1 Tryz.underlying70 inz67 _ _ rfl l b o1 n k (by kernel_rfl) (hl (by omega)) .i64 j (by kernel_rfl) (by omega)) w) <| hl_cell M 3 rfl (by decide) (by kernel_rfl) (by kernel_rfl) (want_no rfl) (some 20) rfl 67 _ rfl b (o1 + j * 1) (by kernel_rfl) (.int .u32 ((I j : Nat) : Int)) (fun _ => by kernel_rfl) (fun w M => M.oldc (hI j (by omega)) (by simp)) <| qV M 4 21 (.slice l2 n k2) <| qV M 5 22 (.int .i64 (j : Int)) <| hl_val M 6 rfl (by decide) (by kernel_rfl) (by kernel_rfl) (want_no rfl) (some 23) rfl (.pointer (some ⟨b2, (o2 + j * 1), none⟩)) (fun w _ => (run_ixK 70 67 1 Tryz.underlying70 inz67 _ _ rfl l2 b2 o2 n k2 (by kernel_rfl) (hl2 (by omega)) .i64 j (by kernel_rfl) (by omega)) w) <| hl_cell M 7 rfl (by decide) (by kernel_rfl) (by kernel_rfl) (want_no rfl) (some 24) rfl 67 _ rfl b2 (o2 + j * 1) (by kernel_rfl) (.int .u32 ((I j : Nat) : Int)) (fun _ => by kernel_rfl) (fun w M => M.oldc (hI2 j (by omega)) (by simp)) <| hl_end (by kernel_rfl) (by kernel_rfl) rfl <| pH 25 (.bool false) (fun w => Eq.trans (b := .ok (.value (.bool (!(decide (((I j : Nat) : Int) = ((I j : Nat) : Int)))))) w) (by kernel_rfl) (by rw [decide_eq_true rfl]; rfl)) <| nT <| au_then <| cF <| wp_skip <| au_block <| au_then ?_
  refine rg_lit <| rV 1 ?_
  refine pH 16 (.int .i64 ((j + 1 : Nat) : Int)) (fun w => Eq.trans (b := .ok (.value (.int .i64 (IntKind.wrap .i64 ((j : Int) + 1)))) w) (by kernel_rfl) (by rw [wrap64 (by omega) (by omega)]; rfl)) ?_
  refine rV 1 <| nT ?_
  exact exS M
 ·intro a u0 hI
  obtain ⟨v1, rfl, M⟩ := hI
  refine wp_seq <| sR <| rV 3 <| ZF 14 ((n : Int) < (n : Int)) <| nT <| cF <| wp_exit <| au_then_exit <| au_then_exit <| au_block_exit <| au_then <| sq <| wp_ret ?_
  exact b1 M
end Go.Proofs.YtenafinbaanicaaGreatDoor
