/- A tunnel: the walks of its calls. -/
import Derived.Test.YtenafinbaanicaaDoorT2
namespace Go.Proofs.YtenafinbaanicaaDoor
open Go.RowKit
set_option maxRecDepth 100000

/-- What one end has. -/
structure TS where
  rc : Nat
  ct : Nat
  rk : Nat
  lf : Nat
  sz : Nat
  nx : Nat
  mt : Nat
  sd : ByteArray
  rv : ByteArray
  fi : Bool
  su : Bool
  q : List Nat
/-- The blocks of a tunnel. -/
def tB (x : TS) (p e wd k md h : Nat) (m : Nat → Int) : List Blk := [⟨p, .cells (av 1 (ls [.pointer (some ⟨e, 0, none⟩)])) 66⟩, ⟨e, .cells (av 12 (ls [.pointer (some ⟨wd, 0, none⟩), .func (.func 39) #[] #[.pointer (some ⟨md, 0, none⟩)], .int .u64 ((x.rc : Nat) : Int), .int .u64 ((x.ct : Nat) : Int), .int .u64 ((x.rk : Nat) : Int), .int .u64 ((x.lf : Nat) : Int), .int .i64 ((x.sz : Nat) : Int), .string x.sd, .string x.rv, .bool (x.fi), .bool (x.su), .int .u64 ((x.nx : Nat) : Int)])) 64⟩, ⟨wd, .cells (av 3 (ls [.int .u64 ((x.sz : Nat) : Int), .int .u64 (h : Int), .slice (some ⟨k, 0, none⟩) (nW x.sz) (nW x.sz)])) 88⟩, ⟨k, .cells (av (nW x.sz) (w64 m)) 22⟩, ⟨md, .cells (av 1 (ls [.int .u64 ((x.mt : Nat) : Int)])) 22⟩]
structure IsT (p : Nat) (x : TS) (T : List Blk) : Prop where
  out : ∃ e wd k md h m, T = tB x p e wd k md h m ∧ Inv x.sz h m x.q ∧ h < 18446744073709551616
structure TS.Ok (x : TS) : Prop where
  s1 : 1 ≤ x.sz
  s2 : x.sz ≤ 4096
  c : x.ct ≤ 1152921504606846976
  n : x.nx ≤ x.ct
def TS.ov (x : TS) (n : Nat) : Bool := ovB x.sd x.lf x.mt n
def TS.wn (x : TS) (n : Nat) : Bool := wnB x.sd x.fi x.rc x.rk x.lf x.nx x.mt n
def TS.sF (x : TS) (n : Nat) : Int := slF x.sd x.su x.ct x.lf x.nx x.mt n
def TS.sE (x : TS) (n : Nat) (s : ByteArray) : Int := if x.sF n = 0 then slZ x.sd x.nx s else x.sF n
def TS.sN (x : TS) (n : Nat) (s : ByteArray) : Nat := if x.sF n = 0 then slN x.sd x.nx s else 0
def TS.sC (x : TS) (n : Nat) (s : ByteArray) : ByteArray := if x.sF n = 0 then slC x.sd x.nx s else ⟨#[]⟩
def TS.sX (x : TS) (n : Nat) (s : ByteArray) : TS := if x.sF n = 0 then { x with nx := slX x.sd x.nx s } else x
def TS.oF (x : TS) (n i : Nat) : Int := opF x.sd x.ct x.lf x.sz x.mt x.q n i
def TS.oE (x : TS) (n i : Nat) (c : ByteArray) : Int := if x.oF n i = 0 then opZ x.rv i c else x.oF n i
def TS.oC (x : TS) (n i : Nat) (c : ByteArray) : ByteArray := if x.oF n i = 0 then opC x.rv i c else ⟨#[]⟩
def TS.oX (x : TS) (n i : Nat) (c : ByteArray) : TS := if x.oF n i = 0 then { x with su := opU x.su x.rv i c, q := opQ x.sz x.q x.rv i c } else x
def TS.wX (x : TS) : TS := { x with sd := ⟨#[]⟩, rv := ⟨#[]⟩ }
/-- Whether limits may be, but for the window's. -/
def mbB (rc ct rk lf : Nat) : Bool := decide (1 ≤ rc ∧ rc ≤ ct ∧ ct ≤ 1152921504606846976 ∧ 1 ≤ rk ∧ rk ≤ lf ∧ lf ≤ 1152921504606846976)
set_option maxRecDepth 100000 in
set_option maxHeartbeats 4000000 in
set_option linter.unusedSimpArgs false in
theorem c_mayBe {rc ct rk lf : Nat} {z : Int} (w : World) (hL : Laid w)  :
    Calls Tryd.prog 20 #[.agg (av 5 (ls [.int .u64 (rc : Int), .int .u64 (ct : Int), .int .u64 (rk : Int), .int .u64 (lf : Int), .int .i64 z]))] w fun r w' => r = .returned (.bool (mbB rc ct rk lf)) ∧ Below w.heap.size w w' := by
  go_enter Tryd.func20, Tryd.ntmps20
  have M := Mem.start hL
  refine wp_seq ?_
  refine rg_lit ?_
  refine pl_new M (want_no rfl) (some 1) rfl (.cells (av 5 (ls [.int .u64 (rc : Int), .int .u64 (ct : Int), .int .u64 (rk : Int), .int .u64 (lf : Int), .int .i64 z])) 24) (fun _ => by kernel_rfl) ?_
  intro g1 u1 M
  replace M : Mem ⟨w, []⟩ [⟨g1, .cells (av 5 (ls [.int .u64 (rc : Int), .int .u64 (ct : Int), .int .u64 (rk : Int), .int .u64 (lf : Int), .int .i64 z])) 24⟩] u1 := M
  refine pl_val (want_no rfl) (some 2) rfl (.bool false) (fun _ => by kernel_rfl) ?_
  refine pl_nil ?_
  refine au_then ?_
  refine wp_seq ?_
  refine rg_lit ?_
  refine pl_val (want_no rfl) (some 3) rfl (.pointer (some ⟨g1, 0, none⟩)) (fun _ => by kernel_rfl) ?_
  refine pl_cell M (want_no rfl) (some 4) rfl 22 _ rfl g1 0 (by kernel_rfl) (.int .u64 (rc : Int)) (fun _ => by kernel_rfl) (fun w M => M.cell 0 rfl (by decide) rfl) ?_
  by_cases c0 : (rc : Int) < 1
  · skip
    refine pl_val (want_no rfl) (some 5) rfl (.bool false) (fun w => Eq.trans (b := .ok (.value (.bool (decide (1 ≤ (rc : Int))))) w) (by kernel_rfl) (by rw [decide_eq_false (by omega)])) ?_
    refine pl_val (want_no rfl) (some 6) rfl (.bool false) (fun _ => by kernel_rfl) ?_
    refine pl_skip (want_off 3 true rfl 6 rfl (by kernel_rfl)) (some 7) rfl ?_
    refine pl_skip (want_off 3 true rfl 6 rfl (by kernel_rfl)) (some 8) rfl ?_
    refine pl_skip (want_off 3 true rfl 6 rfl (by kernel_rfl)) (some 9) rfl ?_
    refine pl_skip (want_off 3 true rfl 6 rfl (by kernel_rfl)) (some 10) rfl ?_
    refine pl_skip (want_off 3 true rfl 6 rfl (by kernel_rfl)) (some 11) rfl ?_
    refine pl_val (want_no rfl) (some 12) rfl (.bool false) (fun _ => by kernel_rfl) ?_
    refine pl_val (want_no rfl) (some 13) rfl (.bool false) (fun _ => by kernel_rfl) ?_
    refine pl_skip (want_off 10 true rfl 13 rfl (by kernel_rfl)) (some 14) rfl ?_
    refine pl_skip (want_off 10 true rfl 13 rfl (by kernel_rfl)) (some 15) rfl ?_
    refine pl_skip (want_off 10 true rfl 13 rfl (by kernel_rfl)) (some 16) rfl ?_
    refine pl_val (want_no rfl) (some 17) rfl (.bool false) (fun _ => by kernel_rfl) ?_
    refine pl_val (want_no rfl) (some 18) rfl (.bool false) (fun _ => by kernel_rfl) ?_
    refine pl_skip (want_off 15 true rfl 18 rfl (by kernel_rfl)) (some 19) rfl ?_
    refine pl_skip (want_off 15 true rfl 18 rfl (by kernel_rfl)) (some 20) rfl ?_
    refine pl_skip (want_off 15 true rfl 18 rfl (by kernel_rfl)) (some 21) rfl ?_
    refine pl_val (want_no rfl) (some 22) rfl (.bool false) (fun _ => by kernel_rfl) ?_
    refine pl_val (want_no rfl) (some 23) rfl (.bool false) (fun _ => by kernel_rfl) ?_
    refine pl_skip (want_off 20 true rfl 23 rfl (by kernel_rfl)) (some 24) rfl ?_
    refine pl_skip (want_off 20 true rfl 23 rfl (by kernel_rfl)) (some 25) rfl ?_
    refine pl_skip (want_off 20 true rfl 23 rfl (by kernel_rfl)) (some 26) rfl ?_
    refine pl_skip (want_off 20 true rfl 23 rfl (by kernel_rfl)) (some 27) rfl ?_
    refine pl_skip (want_off 20 true rfl 23 rfl (by kernel_rfl)) (some 28) rfl ?_
    refine pl_val (want_no rfl) (some 29) rfl (.bool false) (fun _ => by kernel_rfl) ?_
    refine pl_val (want_no rfl) (some 30) rfl (.bool false) (fun _ => by kernel_rfl) ?_
    refine pl_skip (want_off 27 true rfl 30 rfl (by kernel_rfl)) (some 31) rfl ?_
    refine pl_skip (want_off 27 true rfl 30 rfl (by kernel_rfl)) (some 32) rfl ?_
    refine pl_skip (want_off 27 true rfl 30 rfl (by kernel_rfl)) (some 33) rfl ?_
    refine pl_val (want_no rfl) (some 34) rfl (.bool false) (fun _ => by kernel_rfl) ?_
    refine pl_val (want_no rfl) (some 2) rfl (.bool false) (fun _ => by kernel_rfl) ?_
    refine pl_nil ?_
    refine au_then ?_
    refine wp_ret ?_
    have e0 : mbB rc ct rk lf = false := decide_eq_false (by omega)
    exact bodyPost_ret (v := .bool false) (results_tmp1 Tryd.results20 _ _ _ (by kernel_rfl)) (by kernel_rfl) ⟨by rw [e0], below_grown M.old⟩
  · skip
    refine pl_val (want_no rfl) (some 5) rfl (.bool true) (fun w => Eq.trans (b := .ok (.value (.bool (decide (1 ≤ (rc : Int))))) w) (by kernel_rfl) (by rw [decide_eq_true (by omega)])) ?_
    refine pl_val (want_no rfl) (some 6) rfl (.bool true) (fun _ => by kernel_rfl) ?_
    refine pl_val (want_on 3 true rfl 6 rfl (by kernel_rfl)) (some 7) rfl (.pointer (some ⟨g1, 0, none⟩)) (fun _ => by kernel_rfl) ?_
    refine pl_cell M (want_on 3 true rfl 6 rfl (by kernel_rfl)) (some 8) rfl 22 _ rfl g1 0 (by kernel_rfl) (.int .u64 (rc : Int)) (fun _ => by kernel_rfl) (fun w M => M.cell 0 rfl (by decide) rfl) ?_
    refine pl_val (want_on 3 true rfl 6 rfl (by kernel_rfl)) (some 9) rfl (.pointer (some ⟨g1, 1, none⟩)) (fun _ => by kernel_rfl) ?_
    refine pl_cell M (want_on 3 true rfl 6 rfl (by kernel_rfl)) (some 10) rfl 22 _ rfl g1 1 (by kernel_rfl) (.int .u64 (ct : Int)) (fun _ => by kernel_rfl) (fun w M => M.cell 0 rfl (by decide) rfl) ?_
    by_cases c1 : (ct : Int) < (rc : Int)
    · skip
      refine pl_val (want_on 3 true rfl 6 rfl (by kernel_rfl)) (some 11) rfl (.bool false) (fun w => Eq.trans (b := .ok (.value (.bool (decide ((rc : Int) ≤ (ct : Int))))) w) (by kernel_rfl) (by rw [decide_eq_false (by omega)])) ?_
      refine pl_val (want_no rfl) (some 12) rfl (.bool false) (fun _ => by kernel_rfl) ?_
      refine pl_val (want_no rfl) (some 13) rfl (.bool false) (fun _ => by kernel_rfl) ?_
      refine pl_skip (want_off 10 true rfl 13 rfl (by kernel_rfl)) (some 14) rfl ?_
      refine pl_skip (want_off 10 true rfl 13 rfl (by kernel_rfl)) (some 15) rfl ?_
      refine pl_skip (want_off 10 true rfl 13 rfl (by kernel_rfl)) (some 16) rfl ?_
      refine pl_val (want_no rfl) (some 17) rfl (.bool false) (fun _ => by kernel_rfl) ?_
      refine pl_val (want_no rfl) (some 18) rfl (.bool false) (fun _ => by kernel_rfl) ?_
      refine pl_skip (want_off 15 true rfl 18 rfl (by kernel_rfl)) (some 19) rfl ?_
      refine pl_skip (want_off 15 true rfl 18 rfl (by kernel_rfl)) (some 20) rfl ?_
      refine pl_skip (want_off 15 true rfl 18 rfl (by kernel_rfl)) (some 21) rfl ?_
      refine pl_val (want_no rfl) (some 22) rfl (.bool false) (fun _ => by kernel_rfl) ?_
      refine pl_val (want_no rfl) (some 23) rfl (.bool false) (fun _ => by kernel_rfl) ?_
      refine pl_skip (want_off 20 true rfl 23 rfl (by kernel_rfl)) (some 24) rfl ?_
      refine pl_skip (want_off 20 true rfl 23 rfl (by kernel_rfl)) (some 25) rfl ?_
      refine pl_skip (want_off 20 true rfl 23 rfl (by kernel_rfl)) (some 26) rfl ?_
      refine pl_skip (want_off 20 true rfl 23 rfl (by kernel_rfl)) (some 27) rfl ?_
      refine pl_skip (want_off 20 true rfl 23 rfl (by kernel_rfl)) (some 28) rfl ?_
      refine pl_val (want_no rfl) (some 29) rfl (.bool false) (fun _ => by kernel_rfl) ?_
      refine pl_val (want_no rfl) (some 30) rfl (.bool false) (fun _ => by kernel_rfl) ?_
      refine pl_skip (want_off 27 true rfl 30 rfl (by kernel_rfl)) (some 31) rfl ?_
      refine pl_skip (want_off 27 true rfl 30 rfl (by kernel_rfl)) (some 32) rfl ?_
      refine pl_skip (want_off 27 true rfl 30 rfl (by kernel_rfl)) (some 33) rfl ?_
      refine pl_val (want_no rfl) (some 34) rfl (.bool false) (fun _ => by kernel_rfl) ?_
      refine pl_val (want_no rfl) (some 2) rfl (.bool false) (fun _ => by kernel_rfl) ?_
      refine pl_nil ?_
      refine au_then ?_
      refine wp_ret ?_
      have e0 : mbB rc ct rk lf = false := decide_eq_false (by omega)
      exact bodyPost_ret (v := .bool false) (results_tmp1 Tryd.results20 _ _ _ (by kernel_rfl)) (by kernel_rfl) ⟨by rw [e0], below_grown M.old⟩
    · skip
      refine pl_val (want_on 3 true rfl 6 rfl (by kernel_rfl)) (some 11) rfl (.bool true) (fun w => Eq.trans (b := .ok (.value (.bool (decide ((rc : Int) ≤ (ct : Int))))) w) (by kernel_rfl) (by rw [decide_eq_true (by omega)])) ?_
      refine pl_val (want_no rfl) (some 12) rfl (.bool true) (fun _ => by kernel_rfl) ?_
      refine pl_val (want_no rfl) (some 13) rfl (.bool true) (fun _ => by kernel_rfl) ?_
      refine pl_val (want_on 10 true rfl 13 rfl (by kernel_rfl)) (some 14) rfl (.pointer (some ⟨g1, 1, none⟩)) (fun _ => by kernel_rfl) ?_
      refine pl_cell M (want_on 10 true rfl 13 rfl (by kernel_rfl)) (some 15) rfl 22 _ rfl g1 1 (by kernel_rfl) (.int .u64 (ct : Int)) (fun _ => by kernel_rfl) (fun w M => M.cell 0 rfl (by decide) rfl) ?_
      by_cases c2 : 1152921504606846976 < (ct : Int)
      · skip
        refine pl_val (want_on 10 true rfl 13 rfl (by kernel_rfl)) (some 16) rfl (.bool false) (fun w => Eq.trans (b := .ok (.value (.bool (decide ((ct : Int) ≤ 1152921504606846976)))) w) (by kernel_rfl) (by rw [decide_eq_false (by omega)])) ?_
        refine pl_val (want_no rfl) (some 17) rfl (.bool false) (fun _ => by kernel_rfl) ?_
        refine pl_val (want_no rfl) (some 18) rfl (.bool false) (fun _ => by kernel_rfl) ?_
        refine pl_skip (want_off 15 true rfl 18 rfl (by kernel_rfl)) (some 19) rfl ?_
        refine pl_skip (want_off 15 true rfl 18 rfl (by kernel_rfl)) (some 20) rfl ?_
        refine pl_skip (want_off 15 true rfl 18 rfl (by kernel_rfl)) (some 21) rfl ?_
        refine pl_val (want_no rfl) (some 22) rfl (.bool false) (fun _ => by kernel_rfl) ?_
        refine pl_val (want_no rfl) (some 23) rfl (.bool false) (fun _ => by kernel_rfl) ?_
        refine pl_skip (want_off 20 true rfl 23 rfl (by kernel_rfl)) (some 24) rfl ?_
        refine pl_skip (want_off 20 true rfl 23 rfl (by kernel_rfl)) (some 25) rfl ?_
        refine pl_skip (want_off 20 true rfl 23 rfl (by kernel_rfl)) (some 26) rfl ?_
        refine pl_skip (want_off 20 true rfl 23 rfl (by kernel_rfl)) (some 27) rfl ?_
        refine pl_skip (want_off 20 true rfl 23 rfl (by kernel_rfl)) (some 28) rfl ?_
        refine pl_val (want_no rfl) (some 29) rfl (.bool false) (fun _ => by kernel_rfl) ?_
        refine pl_val (want_no rfl) (some 30) rfl (.bool false) (fun _ => by kernel_rfl) ?_
        refine pl_skip (want_off 27 true rfl 30 rfl (by kernel_rfl)) (some 31) rfl ?_
        refine pl_skip (want_off 27 true rfl 30 rfl (by kernel_rfl)) (some 32) rfl ?_
        refine pl_skip (want_off 27 true rfl 30 rfl (by kernel_rfl)) (some 33) rfl ?_
        refine pl_val (want_no rfl) (some 34) rfl (.bool false) (fun _ => by kernel_rfl) ?_
        refine pl_val (want_no rfl) (some 2) rfl (.bool false) (fun _ => by kernel_rfl) ?_
        refine pl_nil ?_
        refine au_then ?_
        refine wp_ret ?_
        have e0 : mbB rc ct rk lf = false := decide_eq_false (by omega)
        exact bodyPost_ret (v := .bool false) (results_tmp1 Tryd.results20 _ _ _ (by kernel_rfl)) (by kernel_rfl) ⟨by rw [e0], below_grown M.old⟩
      · skip
        refine pl_val (want_on 10 true rfl 13 rfl (by kernel_rfl)) (some 16) rfl (.bool true) (fun w => Eq.trans (b := .ok (.value (.bool (decide ((ct : Int) ≤ 1152921504606846976)))) w) (by kernel_rfl) (by rw [decide_eq_true (by omega)])) ?_
        refine pl_val (want_no rfl) (some 17) rfl (.bool true) (fun _ => by kernel_rfl) ?_
        refine pl_val (want_no rfl) (some 18) rfl (.bool true) (fun _ => by kernel_rfl) ?_
        refine pl_val (want_on 15 true rfl 18 rfl (by kernel_rfl)) (some 19) rfl (.pointer (some ⟨g1, 2, none⟩)) (fun _ => by kernel_rfl) ?_
        refine pl_cell M (want_on 15 true rfl 18 rfl (by kernel_rfl)) (some 20) rfl 22 _ rfl g1 2 (by kernel_rfl) (.int .u64 (rk : Int)) (fun _ => by kernel_rfl) (fun w M => M.cell 0 rfl (by decide) rfl) ?_
        by_cases c3 : (rk : Int) < 1
        · skip
          refine pl_val (want_on 15 true rfl 18 rfl (by kernel_rfl)) (some 21) rfl (.bool false) (fun w => Eq.trans (b := .ok (.value (.bool (decide (1 ≤ (rk : Int))))) w) (by kernel_rfl) (by rw [decide_eq_false (by omega)])) ?_
          refine pl_val (want_no rfl) (some 22) rfl (.bool false) (fun _ => by kernel_rfl) ?_
          refine pl_val (want_no rfl) (some 23) rfl (.bool false) (fun _ => by kernel_rfl) ?_
          refine pl_skip (want_off 20 true rfl 23 rfl (by kernel_rfl)) (some 24) rfl ?_
          refine pl_skip (want_off 20 true rfl 23 rfl (by kernel_rfl)) (some 25) rfl ?_
          refine pl_skip (want_off 20 true rfl 23 rfl (by kernel_rfl)) (some 26) rfl ?_
          refine pl_skip (want_off 20 true rfl 23 rfl (by kernel_rfl)) (some 27) rfl ?_
          refine pl_skip (want_off 20 true rfl 23 rfl (by kernel_rfl)) (some 28) rfl ?_
          refine pl_val (want_no rfl) (some 29) rfl (.bool false) (fun _ => by kernel_rfl) ?_
          refine pl_val (want_no rfl) (some 30) rfl (.bool false) (fun _ => by kernel_rfl) ?_
          refine pl_skip (want_off 27 true rfl 30 rfl (by kernel_rfl)) (some 31) rfl ?_
          refine pl_skip (want_off 27 true rfl 30 rfl (by kernel_rfl)) (some 32) rfl ?_
          refine pl_skip (want_off 27 true rfl 30 rfl (by kernel_rfl)) (some 33) rfl ?_
          refine pl_val (want_no rfl) (some 34) rfl (.bool false) (fun _ => by kernel_rfl) ?_
          refine pl_val (want_no rfl) (some 2) rfl (.bool false) (fun _ => by kernel_rfl) ?_
          refine pl_nil ?_
          refine au_then ?_
          refine wp_ret ?_
          have e0 : mbB rc ct rk lf = false := decide_eq_false (by omega)
          exact bodyPost_ret (v := .bool false) (results_tmp1 Tryd.results20 _ _ _ (by kernel_rfl)) (by kernel_rfl) ⟨by rw [e0], below_grown M.old⟩
        · skip
          refine pl_val (want_on 15 true rfl 18 rfl (by kernel_rfl)) (some 21) rfl (.bool true) (fun w => Eq.trans (b := .ok (.value (.bool (decide (1 ≤ (rk : Int))))) w) (by kernel_rfl) (by rw [decide_eq_true (by omega)])) ?_
          refine pl_val (want_no rfl) (some 22) rfl (.bool true) (fun _ => by kernel_rfl) ?_
          refine pl_val (want_no rfl) (some 23) rfl (.bool true) (fun _ => by kernel_rfl) ?_
          refine pl_val (want_on 20 true rfl 23 rfl (by kernel_rfl)) (some 24) rfl (.pointer (some ⟨g1, 2, none⟩)) (fun _ => by kernel_rfl) ?_
          refine pl_cell M (want_on 20 true rfl 23 rfl (by kernel_rfl)) (some 25) rfl 22 _ rfl g1 2 (by kernel_rfl) (.int .u64 (rk : Int)) (fun _ => by kernel_rfl) (fun w M => M.cell 0 rfl (by decide) rfl) ?_
          refine pl_val (want_on 20 true rfl 23 rfl (by kernel_rfl)) (some 26) rfl (.pointer (some ⟨g1, 3, none⟩)) (fun _ => by kernel_rfl) ?_
          refine pl_cell M (want_on 20 true rfl 23 rfl (by kernel_rfl)) (some 27) rfl 22 _ rfl g1 3 (by kernel_rfl) (.int .u64 (lf : Int)) (fun _ => by kernel_rfl) (fun w M => M.cell 0 rfl (by decide) rfl) ?_
          by_cases c4 : (lf : Int) < (rk : Int)
          · skip
            refine pl_val (want_on 20 true rfl 23 rfl (by kernel_rfl)) (some 28) rfl (.bool false) (fun w => Eq.trans (b := .ok (.value (.bool (decide ((rk : Int) ≤ (lf : Int))))) w) (by kernel_rfl) (by rw [decide_eq_false (by omega)])) ?_
            refine pl_val (want_no rfl) (some 29) rfl (.bool false) (fun _ => by kernel_rfl) ?_
            refine pl_val (want_no rfl) (some 30) rfl (.bool false) (fun _ => by kernel_rfl) ?_
            refine pl_skip (want_off 27 true rfl 30 rfl (by kernel_rfl)) (some 31) rfl ?_
            refine pl_skip (want_off 27 true rfl 30 rfl (by kernel_rfl)) (some 32) rfl ?_
            refine pl_skip (want_off 27 true rfl 30 rfl (by kernel_rfl)) (some 33) rfl ?_
            refine pl_val (want_no rfl) (some 34) rfl (.bool false) (fun _ => by kernel_rfl) ?_
            refine pl_val (want_no rfl) (some 2) rfl (.bool false) (fun _ => by kernel_rfl) ?_
            refine pl_nil ?_
            refine au_then ?_
            refine wp_ret ?_
            have e0 : mbB rc ct rk lf = false := decide_eq_false (by omega)
            exact bodyPost_ret (v := .bool false) (results_tmp1 Tryd.results20 _ _ _ (by kernel_rfl)) (by kernel_rfl) ⟨by rw [e0], below_grown M.old⟩
          · skip
            refine pl_val (want_on 20 true rfl 23 rfl (by kernel_rfl)) (some 28) rfl (.bool true) (fun w => Eq.trans (b := .ok (.value (.bool (decide ((rk : Int) ≤ (lf : Int))))) w) (by kernel_rfl) (by rw [decide_eq_true (by omega)])) ?_
            refine pl_val (want_no rfl) (some 29) rfl (.bool true) (fun _ => by kernel_rfl) ?_
            refine pl_val (want_no rfl) (some 30) rfl (.bool true) (fun _ => by kernel_rfl) ?_
            refine pl_val (want_on 27 true rfl 30 rfl (by kernel_rfl)) (some 31) rfl (.pointer (some ⟨g1, 3, none⟩)) (fun _ => by kernel_rfl) ?_
            refine pl_cell M (want_on 27 true rfl 30 rfl (by kernel_rfl)) (some 32) rfl 22 _ rfl g1 3 (by kernel_rfl) (.int .u64 (lf : Int)) (fun _ => by kernel_rfl) (fun w M => M.cell 0 rfl (by decide) rfl) ?_
            by_cases c5 : 1152921504606846976 < (lf : Int)
            · skip
              refine pl_val (want_on 27 true rfl 30 rfl (by kernel_rfl)) (some 33) rfl (.bool false) (fun w => Eq.trans (b := .ok (.value (.bool (decide ((lf : Int) ≤ 1152921504606846976)))) w) (by kernel_rfl) (by rw [decide_eq_false (by omega)])) ?_
              refine pl_val (want_no rfl) (some 34) rfl (.bool false) (fun _ => by kernel_rfl) ?_
              refine pl_val (want_no rfl) (some 2) rfl (.bool false) (fun _ => by kernel_rfl) ?_
              refine pl_nil ?_
              refine au_then ?_
              refine wp_ret ?_
              have e0 : mbB rc ct rk lf = false := decide_eq_false (by omega)
              exact bodyPost_ret (v := .bool false) (results_tmp1 Tryd.results20 _ _ _ (by kernel_rfl)) (by kernel_rfl) ⟨by rw [e0], below_grown M.old⟩
            · skip
              refine pl_val (want_on 27 true rfl 30 rfl (by kernel_rfl)) (some 33) rfl (.bool true) (fun w => Eq.trans (b := .ok (.value (.bool (decide ((lf : Int) ≤ 1152921504606846976)))) w) (by kernel_rfl) (by rw [decide_eq_true (by omega)])) ?_
              refine pl_val (want_no rfl) (some 34) rfl (.bool true) (fun _ => by kernel_rfl) ?_
              refine pl_val (want_no rfl) (some 2) rfl (.bool true) (fun _ => by kernel_rfl) ?_
              refine pl_nil ?_
              refine au_then ?_
              refine wp_ret ?_
              have e0 : mbB rc ct rk lf = true := decide_eq_true (by omega)
              exact bodyPost_ret (v := .bool true) (results_tmp1 Tryd.results20 _ _ _ (by kernel_rfl)) (by kernel_rfl) ⟨by rw [e0], below_grown M.old⟩

set_option maxRecDepth 100000 in
set_option maxHeartbeats 4000000 in
set_option linter.unusedSimpArgs false in
theorem c_ageSince {mt : Nat} (w : World) (hL : Laid w)  :
    Calls Tryd.prog 22 #[.int .u64 (mt : Int)] w fun r w' => ∃ md, r = .returned (.func (.func 39) #[] #[.pointer (some ⟨md, 0, none⟩)]) ∧ w.heap.size ≤ md ∧ w'.heap[md]? = some (.cells (av 1 (ls [.int .u64 (mt : Int)])) 22) ∧ Below w.heap.size w w' := by
  go_enter Tryd.func22, Tryd.ntmps22
  have M := Mem.start hL
  refine wp_seq ?_
  refine rg_lit ?_
  refine pl_new M (want_no rfl) (some 1) rfl (.cells (av 1 (ls [.int .u64 (mt : Int)])) 22) (fun _ => by kernel_rfl) ?_
  intro g1 u1 M
  replace M : Mem ⟨w, []⟩ [⟨g1, .cells (av 1 (ls [.int .u64 (mt : Int)])) 22⟩] u1 := M
  refine pl_val (want_no rfl) (some 2) rfl (Value.nilFunc) (fun _ => by kernel_rfl) ?_
  refine pl_nil ?_
  refine au_then ?_
  refine wp_seq ?_
  refine rg_lit ?_
  refine pl_val (want_no rfl) (some 3) rfl (.func (.func 39) #[] #[.pointer (some ⟨g1, 0, none⟩)]) (fun _ => by kernel_rfl) ?_
  refine pl_val (want_no rfl) (some 2) rfl (.func (.func 39) #[] #[.pointer (some ⟨g1, 0, none⟩)]) (fun _ => by kernel_rfl) ?_
  refine pl_nil ?_
  refine au_then ?_
  refine wp_ret ?_
  exact bodyPost_ret (v := .func (.func 39) #[] #[.pointer (some ⟨g1, 0, none⟩)]) (results_tmp1 Tryd.results22 _ _ _ (by kernel_rfl)) (by kernel_rfl) ⟨_, rfl, ((M.ge _ (List.mem_singleton.2 rfl)).resolve_right (by simp)), M.get 0 rfl, below_grown M.old⟩

set_option maxRecDepth 100000 in
set_option maxHeartbeats 4000000 in
set_option linter.unusedSimpArgs false in
theorem c_TNewE {y0 y1 sd rv y4 : ByteArray} {fi : Bool} {mt rc ct rk lf : Nat} {z : Int} (hz : sd.size = 32 → rv.size = 32 → mbB rc ct rk lf = true → z < 1 ∨ 4096 < z) (w : World) (hL : Laid w)  :
    Calls Tryd.prog 6 #[.agg (av 5 (ls [.string y0, .string y1, .string sd, .string rv, .string y4])), .bool (fi), .int .u64 (mt : Int), .agg (av 5 (ls [.int .u64 (rc : Int), .int .u64 (ct : Int), .int .u64 (rk : Int), .int .u64 (lf : Int), .int .i64 z]))] w fun r w' => r = .returned (.tuple #[.pointer none, .int .i64 2]) ∧ Below w.heap.size w w' := by
  go_enter Tryd.func6, Tryd.ntmps6
  have M := Mem.start hL
  refine wp_seq ?_
  refine rg_lit ?_
  refine pl_new M (want_no rfl) (some 4) rfl (.cells (av 5 (ls [.string y0, .string y1, .string sd, .string rv, .string y4])) 33) (fun _ => by kernel_rfl) ?_
  intro g1 u1 M
  replace M : Mem ⟨w, []⟩ [⟨g1, .cells (av 5 (ls [.string y0, .string y1, .string sd, .string rv, .string y4])) 33⟩] u1 := M
  refine pl_new M (want_no rfl) (some 7) rfl (.cells (av 5 (ls [.int .u64 (rc : Int), .int .u64 (ct : Int), .int .u64 (rk : Int), .int .u64 (lf : Int), .int .i64 z])) 24) (fun _ => by kernel_rfl) ?_
  intro g2 u2 M
  replace M : Mem ⟨w, []⟩ [⟨g1, .cells (av 5 (ls [.string y0, .string y1, .string sd, .string rv, .string y4])) 33⟩, ⟨g2, .cells (av 5 (ls [.int .u64 (rc : Int), .int .u64 (ct : Int), .int .u64 (rk : Int), .int .u64 (lf : Int), .int .i64 z])) 24⟩] u2 := M
  refine pl_val (want_no rfl) (some 8) rfl (.pointer none) (fun _ => by kernel_rfl) ?_
  refine pl_val (want_no rfl) (some 9) rfl (.int .i64 0) (fun _ => by kernel_rfl) ?_
  refine pl_nil ?_
  refine au_then ?_
  refine wp_seq ?_
  refine wp_seq ?_
  refine rg_lit ?_
  refine pl_val (want_no rfl) (some 12) rfl (.pointer (some ⟨g1, 2, none⟩)) (fun _ => by kernel_rfl) ?_
  refine pl_cell M (want_no rfl) (some 13) rfl 9 _ rfl g1 2 (by kernel_rfl) (.string sd) (fun _ => by kernel_rfl) (fun w M => M.cell 0 rfl (by decide) rfl) ?_
  refine pl_val (want_no rfl) (some 14) rfl (.int .i64 (sd.size : Int)) (fun _ => by kernel_rfl) ?_
  by_cases c0 : (sd.size : Int) = 32
  · skip
    refine pl_val (want_no rfl) (some 15) rfl (.bool false) (fun w => Eq.trans (b := .ok (.value (.bool (!(decide ((sd.size : Int) = 32))))) w) (by kernel_rfl) (by rw [decide_eq_true (c0)]; rfl)) ?_
    refine pl_val (want_no rfl) (some 16) rfl (.bool false) (fun _ => by kernel_rfl) ?_
    refine pl_val (want_on 4 false rfl 16 rfl (by kernel_rfl)) (some 17) rfl (.pointer (some ⟨g1, 3, none⟩)) (fun _ => by kernel_rfl) ?_
    refine pl_cell M (want_on 4 false rfl 16 rfl (by kernel_rfl)) (some 18) rfl 9 _ rfl g1 3 (by kernel_rfl) (.string rv) (fun _ => by kernel_rfl) (fun w M => M.cell 0 rfl (by decide) rfl) ?_
    refine pl_val (want_on 4 false rfl 16 rfl (by kernel_rfl)) (some 19) rfl (.int .i64 (rv.size : Int)) (fun _ => by kernel_rfl) ?_
    by_cases c1 : (rv.size : Int) = 32
    · skip
      refine pl_val (want_on 4 false rfl 16 rfl (by kernel_rfl)) (some 20) rfl (.bool false) (fun w => Eq.trans (b := .ok (.value (.bool (!(decide ((rv.size : Int) = 32))))) w) (by kernel_rfl) (by rw [decide_eq_true (c1)]; rfl)) ?_
      refine pl_val (want_no rfl) (some 21) rfl (.bool false) (fun _ => by kernel_rfl) ?_
      refine pl_val (want_no rfl) (some 22) rfl (.bool false) (fun _ => by kernel_rfl) ?_
      refine pl_load M (want_on 10 false rfl 22 rfl (by kernel_rfl)) (some 23) rfl 24 _ rfl 1 g2 0 (by kernel_rfl) 5 24 (ls [.int .u64 (rc : Int), .int .u64 (ct : Int), .int .u64 (rk : Int), .int .u64 (lf : Int), .int .i64 z]) rfl 5 (ls [.int .u64 (rc : Int), .int .u64 (ct : Int), .int .u64 (rk : Int), .int .u64 (lf : Int), .int .i64 z]) (fun j _ => by rw [Nat.zero_add]) (by decide) _ Tryd.underlying24 rfl inz24 ?_
      rcases Bool.eq_false_or_eq_true (mbB rc ct rk lf) with c2 | c2
      · skip
        refine pl_call M (want_on 10 false rfl 22 rfl (by kernel_rfl)) (some 24) rfl 20 #[.agg (av 5 (ls [.int .u64 (rc : Int), .int .u64 (ct : Int), .int .u64 (rk : Int), .int .u64 (lf : Int), .int .i64 z]))] (.bool true) (fun _ => by kernel_rfl) (fun w M => call_val (c_mayBe w M.laid) (congrArg Value.bool c2)) ?_
        intro u3 M
        refine pl_val (want_on 10 false rfl 22 rfl (by kernel_rfl)) (some 25) rfl (.bool false) (fun _ => by kernel_rfl) ?_
        refine pl_val (want_no rfl) (some 26) rfl (.bool false) (fun _ => by kernel_rfl) ?_
        refine pl_nil ?_
        refine au_then ?_
        refine wp_cond_false (by kernel_rfl) ?_
        refine wp_skip ?_
        refine au_then ?_
        refine wp_seq ?_
        refine rg_lit ?_
        refine pl_val (want_no rfl) (some 28) rfl (.pointer (some ⟨g2, 4, none⟩)) (fun _ => by kernel_rfl) ?_
        refine pl_cell M (want_no rfl) (some 29) rfl 3 _ rfl g2 4 (by kernel_rfl) (.int .i64 z) (fun _ => by kernel_rfl) (fun w M => M.cell 1 rfl (by decide) rfl) ?_
        refine pl_call M (want_no rfl) (some 30) rfl 21 #[.int .i64 z] (.tuple #[.pointer none, .int .i64 2]) (fun _ => by kernel_rfl) (fun w M => c_NewE z (hz (by omega) (by omega) c2) w M.laid) ?_
        intro u4 M
        refine pl_val (want_no rfl) (some 27) rfl (.tuple #[.pointer none, .int .i64 2]) (fun _ => by kernel_rfl) ?_
        refine pl_val (want_no rfl) (some 31) rfl (.pointer none) (fun _ => by kernel_rfl) ?_
        refine pl_val (want_no rfl) (some 32) rfl (.int .i64 2) (fun _ => by kernel_rfl) ?_
        refine pl_val (want_no rfl) (some 10) rfl (.pointer none) (fun _ => by kernel_rfl) ?_
        refine pl_val (want_no rfl) (some 11) rfl (.int .i64 2) (fun _ => by kernel_rfl) ?_
        refine pl_nil ?_
        refine au_then ?_
        refine wp_seq ?_
        refine wp_seq ?_
        refine rg_lit ?_
        refine pl_val (want_no rfl) (some 33) rfl (.int .i64 2) (fun _ => by kernel_rfl) ?_
        refine pl_val (want_no rfl) (some 34) rfl (.bool true) (fun _ => by kernel_rfl) ?_
        refine pl_nil ?_
        refine au_then ?_
        refine wp_cond_true (by kernel_rfl) ?_
        refine wp_seq ?_
        refine rg_lit ?_
        refine pl_val (want_no rfl) (some 35) rfl (.int .i64 2) (fun _ => by kernel_rfl) ?_
        refine pl_val (want_no rfl) (some 8) rfl (.pointer none) (fun _ => by kernel_rfl) ?_
        refine pl_val (want_no rfl) (some 9) rfl (.int .i64 2) (fun _ => by kernel_rfl) ?_
        refine pl_nil ?_
        refine au_then ?_
        refine wp_ret ?_
        refine au_then_ret ?_
        exact bodyPost_ret (v := .tuple #[.pointer none, .int .i64 2]) (results_tmp2 Tryd.results6 _ _ _ _ (by kernel_rfl) (by kernel_rfl)) (by kernel_rfl) ⟨rfl, below_grown M.old⟩
      · skip
        refine pl_call M (want_on 10 false rfl 22 rfl (by kernel_rfl)) (some 24) rfl 20 #[.agg (av 5 (ls [.int .u64 (rc : Int), .int .u64 (ct : Int), .int .u64 (rk : Int), .int .u64 (lf : Int), .int .i64 z]))] (.bool false) (fun _ => by kernel_rfl) (fun w M => call_val (c_mayBe w M.laid) (congrArg Value.bool c2)) ?_
        intro u3 M
        refine pl_val (want_on 10 false rfl 22 rfl (by kernel_rfl)) (some 25) rfl (.bool true) (fun _ => by kernel_rfl) ?_
        refine pl_val (want_no rfl) (some 26) rfl (.bool true) (fun _ => by kernel_rfl) ?_
        refine pl_nil ?_
        refine au_then ?_
        refine wp_cond_true (by kernel_rfl) ?_
        refine wp_seq ?_
        refine rg_lit ?_
        refine pl_val (want_no rfl) (some 8) rfl (.pointer none) (fun _ => by kernel_rfl) ?_
        refine pl_val (want_no rfl) (some 9) rfl (.int .i64 2) (fun _ => by kernel_rfl) ?_
        refine pl_nil ?_
        refine au_then ?_
        refine wp_ret ?_
        refine au_then_ret ?_
        exact bodyPost_ret (v := .tuple #[.pointer none, .int .i64 2]) (results_tmp2 Tryd.results6 _ _ _ _ (by kernel_rfl) (by kernel_rfl)) (by kernel_rfl) ⟨rfl, below_grown M.old⟩
    · skip
      refine pl_val (want_on 4 false rfl 16 rfl (by kernel_rfl)) (some 20) rfl (.bool true) (fun w => Eq.trans (b := .ok (.value (.bool (!(decide ((rv.size : Int) = 32))))) w) (by kernel_rfl) (by rw [decide_eq_false (c1)]; rfl)) ?_
      refine pl_val (want_no rfl) (some 21) rfl (.bool true) (fun _ => by kernel_rfl) ?_
      refine pl_val (want_no rfl) (some 22) rfl (.bool true) (fun _ => by kernel_rfl) ?_
      refine pl_skip (want_off 10 false rfl 22 rfl (by kernel_rfl)) (some 23) rfl ?_
      refine pl_skip (want_off 10 false rfl 22 rfl (by kernel_rfl)) (some 24) rfl ?_
      refine pl_skip (want_off 10 false rfl 22 rfl (by kernel_rfl)) (some 25) rfl ?_
      refine pl_val (want_no rfl) (some 26) rfl (.bool true) (fun _ => by kernel_rfl) ?_
      refine pl_nil ?_
      refine au_then ?_
      refine wp_cond_true (by kernel_rfl) ?_
      refine wp_seq ?_
      refine rg_lit ?_
      refine pl_val (want_no rfl) (some 8) rfl (.pointer none) (fun _ => by kernel_rfl) ?_
      refine pl_val (want_no rfl) (some 9) rfl (.int .i64 2) (fun _ => by kernel_rfl) ?_
      refine pl_nil ?_
      refine au_then ?_
      refine wp_ret ?_
      refine au_then_ret ?_
      exact bodyPost_ret (v := .tuple #[.pointer none, .int .i64 2]) (results_tmp2 Tryd.results6 _ _ _ _ (by kernel_rfl) (by kernel_rfl)) (by kernel_rfl) ⟨rfl, below_grown M.old⟩
  · skip
    refine pl_val (want_no rfl) (some 15) rfl (.bool true) (fun w => Eq.trans (b := .ok (.value (.bool (!(decide ((sd.size : Int) = 32))))) w) (by kernel_rfl) (by rw [decide_eq_false (c0)]; rfl)) ?_
    refine pl_val (want_no rfl) (some 16) rfl (.bool true) (fun _ => by kernel_rfl) ?_
    refine pl_skip (want_off 4 false rfl 16 rfl (by kernel_rfl)) (some 17) rfl ?_
    refine pl_skip (want_off 4 false rfl 16 rfl (by kernel_rfl)) (some 18) rfl ?_
    refine pl_skip (want_off 4 false rfl 16 rfl (by kernel_rfl)) (some 19) rfl ?_
    refine pl_skip (want_off 4 false rfl 16 rfl (by kernel_rfl)) (some 20) rfl ?_
    refine pl_val (want_no rfl) (some 21) rfl (.bool true) (fun _ => by kernel_rfl) ?_
    refine pl_val (want_no rfl) (some 22) rfl (.bool true) (fun _ => by kernel_rfl) ?_
    refine pl_skip (want_off 10 false rfl 22 rfl (by kernel_rfl)) (some 23) rfl ?_
    refine pl_skip (want_off 10 false rfl 22 rfl (by kernel_rfl)) (some 24) rfl ?_
    refine pl_skip (want_off 10 false rfl 22 rfl (by kernel_rfl)) (some 25) rfl ?_
    refine pl_val (want_no rfl) (some 26) rfl (.bool true) (fun _ => by kernel_rfl) ?_
    refine pl_nil ?_
    refine au_then ?_
    refine wp_cond_true (by kernel_rfl) ?_
    refine wp_seq ?_
    refine rg_lit ?_
    refine pl_val (want_no rfl) (some 8) rfl (.pointer none) (fun _ => by kernel_rfl) ?_
    refine pl_val (want_no rfl) (some 9) rfl (.int .i64 2) (fun _ => by kernel_rfl) ?_
    refine pl_nil ?_
    refine au_then ?_
    refine wp_ret ?_
    refine au_then_ret ?_
    exact bodyPost_ret (v := .tuple #[.pointer none, .int .i64 2]) (results_tmp2 Tryd.results6 _ _ _ _ (by kernel_rfl) (by kernel_rfl)) (by kernel_rfl) ⟨rfl, below_grown M.old⟩

set_option maxRecDepth 100000 in
set_option maxHeartbeats 4000000 in
set_option linter.unusedSimpArgs false in
theorem a_New {y0 y1 sd rv y4 : ByteArray} {fi : Bool} {mt rc ct rk lf : Nat} {s : Nat} (h1 : sd.size = 32) (h2 : rv.size = 32) (h3 : mbB rc ct rk lf = true) (hs : 1 ≤ s) (hs4 : s ≤ 4096) (w : World) (hL : Laid w)  :
    Calls Tryd.prog 6 #[.agg (av 5 (ls [.string y0, .string y1, .string sd, .string rv, .string y4])), .bool (fi), .int .u64 (mt : Int), .agg (av 5 (ls [.int .u64 (rc : Int), .int .u64 (ct : Int), .int .u64 (rk : Int), .int .u64 (lf : Int), .int .i64 (s : Int)]))] w fun r w' => ∃ x : Nat × List Blk, r = .returned (.tuple #[.pointer (some ⟨x.1, 0, none⟩), .int .i64 0]) ∧ IsT x.1 ⟨rc, ct, rk, lf, s, 0, mt, sd, rv, fi, fi, []⟩ x.2 ∧ OkT w w' [] x.2 := by
  go_enter Tryd.func6, Tryd.ntmps6
  have M := Mem.start hL
  refine wp_seq ?_
  refine rg_lit ?_
  refine pl_new M (want_no rfl) (some 4) rfl (.cells (av 5 (ls [.string y0, .string y1, .string sd, .string rv, .string y4])) 33) (fun _ => by kernel_rfl) ?_
  intro g1 u1 M
  replace M : Mem ⟨w, []⟩ [⟨g1, .cells (av 5 (ls [.string y0, .string y1, .string sd, .string rv, .string y4])) 33⟩] u1 := M
  refine pl_new M (want_no rfl) (some 7) rfl (.cells (av 5 (ls [.int .u64 (rc : Int), .int .u64 (ct : Int), .int .u64 (rk : Int), .int .u64 (lf : Int), .int .i64 (s : Int)])) 24) (fun _ => by kernel_rfl) ?_
  intro g2 u2 M
  replace M : Mem ⟨w, []⟩ [⟨g1, .cells (av 5 (ls [.string y0, .string y1, .string sd, .string rv, .string y4])) 33⟩, ⟨g2, .cells (av 5 (ls [.int .u64 (rc : Int), .int .u64 (ct : Int), .int .u64 (rk : Int), .int .u64 (lf : Int), .int .i64 (s : Int)])) 24⟩] u2 := M
  refine pl_val (want_no rfl) (some 8) rfl (.pointer none) (fun _ => by kernel_rfl) ?_
  refine pl_val (want_no rfl) (some 9) rfl (.int .i64 0) (fun _ => by kernel_rfl) ?_
  refine pl_nil ?_
  refine au_then ?_
  refine wp_seq ?_
  refine wp_seq ?_
  refine rg_lit ?_
  refine pl_val (want_no rfl) (some 12) rfl (.pointer (some ⟨g1, 2, none⟩)) (fun _ => by kernel_rfl) ?_
  refine pl_cell M (want_no rfl) (some 13) rfl 9 _ rfl g1 2 (by kernel_rfl) (.string sd) (fun _ => by kernel_rfl) (fun w M => M.cell 0 rfl (by decide) rfl) ?_
  refine pl_val (want_no rfl) (some 14) rfl (.int .i64 (sd.size : Int)) (fun _ => by kernel_rfl) ?_
  by_cases c0 : (sd.size : Int) = 32
  · skip
    refine pl_val (want_no rfl) (some 15) rfl (.bool false) (fun w => Eq.trans (b := .ok (.value (.bool (!(decide ((sd.size : Int) = 32))))) w) (by kernel_rfl) (by rw [decide_eq_true (c0)]; rfl)) ?_
    refine pl_val (want_no rfl) (some 16) rfl (.bool false) (fun _ => by kernel_rfl) ?_
    refine pl_val (want_on 4 false rfl 16 rfl (by kernel_rfl)) (some 17) rfl (.pointer (some ⟨g1, 3, none⟩)) (fun _ => by kernel_rfl) ?_
    refine pl_cell M (want_on 4 false rfl 16 rfl (by kernel_rfl)) (some 18) rfl 9 _ rfl g1 3 (by kernel_rfl) (.string rv) (fun _ => by kernel_rfl) (fun w M => M.cell 0 rfl (by decide) rfl) ?_
    refine pl_val (want_on 4 false rfl 16 rfl (by kernel_rfl)) (some 19) rfl (.int .i64 (rv.size : Int)) (fun _ => by kernel_rfl) ?_
    by_cases c1 : (rv.size : Int) = 32
    · skip
      refine pl_val (want_on 4 false rfl 16 rfl (by kernel_rfl)) (some 20) rfl (.bool false) (fun w => Eq.trans (b := .ok (.value (.bool (!(decide ((rv.size : Int) = 32))))) w) (by kernel_rfl) (by rw [decide_eq_true (c1)]; rfl)) ?_
      refine pl_val (want_no rfl) (some 21) rfl (.bool false) (fun _ => by kernel_rfl) ?_
      refine pl_val (want_no rfl) (some 22) rfl (.bool false) (fun _ => by kernel_rfl) ?_
      refine pl_load M (want_on 10 false rfl 22 rfl (by kernel_rfl)) (some 23) rfl 24 _ rfl 1 g2 0 (by kernel_rfl) 5 24 (ls [.int .u64 (rc : Int), .int .u64 (ct : Int), .int .u64 (rk : Int), .int .u64 (lf : Int), .int .i64 (s : Int)]) rfl 5 (ls [.int .u64 (rc : Int), .int .u64 (ct : Int), .int .u64 (rk : Int), .int .u64 (lf : Int), .int .i64 (s : Int)]) (fun j _ => by rw [Nat.zero_add]) (by decide) _ Tryd.underlying24 rfl inz24 ?_
      refine pl_call M (want_on 10 false rfl 22 rfl (by kernel_rfl)) (some 24) rfl 20 #[.agg (av 5 (ls [.int .u64 (rc : Int), .int .u64 (ct : Int), .int .u64 (rk : Int), .int .u64 (lf : Int), .int .i64 (s : Int)]))] (.bool true) (fun _ => by kernel_rfl) (fun w M => call_val (c_mayBe w M.laid) (congrArg Value.bool h3)) ?_
      intro u3 M
      refine pl_val (want_on 10 false rfl 22 rfl (by kernel_rfl)) (some 25) rfl (.bool false) (fun _ => by kernel_rfl) ?_
      refine pl_val (want_no rfl) (some 26) rfl (.bool false) (fun _ => by kernel_rfl) ?_
      refine pl_nil ?_
      refine au_then ?_
      refine wp_cond_false (by kernel_rfl) ?_
      refine wp_skip ?_
      refine au_then ?_
      refine wp_seq ?_
      refine rg_lit ?_
      refine pl_val (want_no rfl) (some 28) rfl (.pointer (some ⟨g2, 4, none⟩)) (fun _ => by kernel_rfl) ?_
      refine pl_cell M (want_no rfl) (some 29) rfl 3 _ rfl g2 4 (by kernel_rfl) (.int .i64 (s : Int)) (fun _ => by kernel_rfl) (fun w M => M.cell 1 rfl (by decide) rfl) ?_
      refine pl_callM M (want_no rfl) (some 30) rfl 21 #[.int .i64 (s : Int)] [⟨g1, .cells (av 5 (ls [.string y0, .string y1, .string sd, .string rv, .string y4])) 33⟩, ⟨g2, .cells (av 5 (ls [.int .u64 (rc : Int), .int .u64 (ct : Int), .int .u64 (rk : Int), .int .u64 (lf : Int), .int .i64 (s : Int)])) 24⟩] [] [] (by simp only [List.append_assoc, List.cons_append, List.nil_append, List.append_nil]) (fun x : Nat × Nat => .tuple #[.pointer (some ⟨x.1, 0, none⟩), .int .i64 0]) (fun x : Nat × Nat => [⟨x.1, .cells (av 3 (ls [.int .u64 (s : Int), .int .u64 0, .slice (some ⟨x.2, 0, none⟩) (nW s) (nW s)])) 88⟩, ⟨x.2, .cells (av (nW s) (w64 (fun _ => 0))) 22⟩]) (fun x : Nat × Nat => True) (fun _ => by kernel_rfl) (fun w hL hT => c_WNew s hs hs4 w hL) ?_
      rintro ⟨wd, k⟩ u4 - M
      replace M : Mem ⟨w, []⟩ [⟨g1, .cells (av 5 (ls [.string y0, .string y1, .string sd, .string rv, .string y4])) 33⟩, ⟨g2, .cells (av 5 (ls [.int .u64 (rc : Int), .int .u64 (ct : Int), .int .u64 (rk : Int), .int .u64 (lf : Int), .int .i64 (s : Int)])) 24⟩, ⟨wd, .cells (av 3 (ls [.int .u64 (s : Int), .int .u64 0, .slice (some ⟨k, 0, none⟩) (nW s) (nW s)])) 88⟩, ⟨k, .cells (av (nW s) (w64 (fun _ => 0))) 22⟩] u4 := by simpa only [List.append_assoc, List.cons_append, List.nil_append, List.append_nil] using M
      refine pl_val (want_no rfl) (some 27) rfl (.tuple #[.pointer (some ⟨wd, 0, none⟩), .int .i64 0]) (fun _ => by kernel_rfl) ?_
      refine pl_val (want_no rfl) (some 31) rfl (.pointer (some ⟨wd, 0, none⟩)) (fun _ => by kernel_rfl) ?_
      refine pl_val (want_no rfl) (some 32) rfl (.int .i64 0) (fun _ => by kernel_rfl) ?_
      refine pl_val (want_no rfl) (some 10) rfl (.pointer (some ⟨wd, 0, none⟩)) (fun _ => by kernel_rfl) ?_
      refine pl_val (want_no rfl) (some 11) rfl (.int .i64 0) (fun _ => by kernel_rfl) ?_
      refine pl_nil ?_
      refine au_then ?_
      refine wp_seq ?_
      refine wp_seq ?_
      refine rg_lit ?_
      refine pl_val (want_no rfl) (some 33) rfl (.int .i64 0) (fun _ => by kernel_rfl) ?_
      refine pl_val (want_no rfl) (some 34) rfl (.bool false) (fun _ => by kernel_rfl) ?_
      refine pl_nil ?_
      refine au_then ?_
      refine wp_cond_false (by kernel_rfl) ?_
      refine wp_skip ?_
      refine au_then ?_
      refine wp_seq ?_
      refine rg_held M [⟨g1, .cells (av 5 (ls [.string y0, .string y1, .string sd, .string rv, .string y4])) 33⟩, ⟨g2, .cells (av 5 (ls [.int .u64 (rc : Int), .int .u64 (ct : Int), .int .u64 (rk : Int), .int .u64 (lf : Int), .int .i64 (s : Int)])) 24⟩, ⟨wd, .cells (av 3 (ls [.int .u64 (s : Int), .int .u64 0, .slice (some ⟨k, 0, none⟩) (nW s) (nW s)])) 88⟩, ⟨k, .cells (av (nW s) (w64 (fun _ => 0))) 22⟩] 15 rfl (by kernel_rfl) (by kernel_rfl) (fun _ _ d _ _ h => by cases d <;> exact h) ?_
      intro u5 M
      replace M : Mem ⟨w, []⟩ [⟨g1, .cells (av 5 (ls [.string y0, .string y1, .string sd, .string rv, .string y4])) 33⟩, ⟨g2, .cells (av 5 (ls [.int .u64 (rc : Int), .int .u64 (ct : Int), .int .u64 (rk : Int), .int .u64 (lf : Int), .int .i64 (s : Int)])) 24⟩, ⟨wd, .cells (av 3 (ls [.int .u64 (s : Int), .int .u64 0, .slice (some ⟨k, 0, none⟩) (nW s) (nW s)])) 88⟩, ⟨k, .cells (av (nW s) (w64 (fun _ => 0))) 22⟩] u5 := M
      refine hl_val M 0 rfl (by decide) (by kernel_rfl) (by kernel_rfl) (want_no rfl) (some 36) rfl (.pointer (some ⟨wd, 0, none⟩)) (fun _ _ => by kernel_rfl) ?_
      refine hl_val M 1 rfl (by decide) (by kernel_rfl) (by kernel_rfl) (want_no rfl) (some 37) rfl (.int .u64 (mt : Int)) (fun _ _ => by kernel_rfl) ?_
      refine hl_load M 3 rfl (by decide) (by kernel_rfl) (by kernel_rfl) (want_no rfl) (some 39) rfl 24 _ rfl 1 g2 0 (by kernel_rfl) 5 24 (ls [.int .u64 (rc : Int), .int .u64 (ct : Int), .int .u64 (rk : Int), .int .u64 (lf : Int), .int .i64 (s : Int)]) rfl 5 (ls [.int .u64 (rc : Int), .int .u64 (ct : Int), .int .u64 (rk : Int), .int .u64 (lf : Int), .int .i64 (s : Int)]) (fun j _ => by rw [Nat.zero_add]) (by decide) _ Tryd.underlying24 rfl inz24 ?_
      refine hl_val M 4 rfl (by decide) (by kernel_rfl) (by kernel_rfl) (want_no rfl) (some 40) rfl (.pointer (some ⟨g1, 2, none⟩)) (fun _ _ => by kernel_rfl) ?_
      refine hl_cell M 5 rfl (by decide) (by kernel_rfl) (by kernel_rfl) (want_no rfl) (some 41) rfl 9 _ rfl g1 2 (by kernel_rfl) (.string sd) (fun _ => by kernel_rfl) (fun w M => M.cell 0 rfl (by decide) rfl) ?_
      refine hl_val M 6 rfl (by decide) (by kernel_rfl) (by kernel_rfl) (want_no rfl) (some 42) rfl (.pointer (some ⟨g1, 3, none⟩)) (fun _ _ => by kernel_rfl) ?_
      refine hl_cell M 7 rfl (by decide) (by kernel_rfl) (by kernel_rfl) (want_no rfl) (some 43) rfl 9 _ rfl g1 3 (by kernel_rfl) (.string rv) (fun _ => by kernel_rfl) (fun w M => M.cell 0 rfl (by decide) rfl) ?_
      refine hl_val M 8 rfl (by decide) (by kernel_rfl) (by kernel_rfl) (want_no rfl) (some 44) rfl (.bool (fi)) (fun _ _ => by kernel_rfl) ?_
      refine hl_val M 9 rfl (by decide) (by kernel_rfl) (by kernel_rfl) (want_no rfl) (some 45) rfl (.bool (fi)) (fun _ _ => by kernel_rfl) ?_
      refine hl_one 2 (by decide) (by kernel_rfl) rfl ?_
      refine pl_calln M (want_no rfl) (some 38) rfl 22 #[.int .u64 (mt : Int)] (fun g3 => .func (.func 39) #[] #[.pointer (some ⟨g3, 0, none⟩)]) (.cells (av 1 (ls [.int .u64 (mt : Int)])) 22) (fun _ => by kernel_rfl) (fun w M => c_ageSince w M.laid) ?_
      intro g3 u6 M
      replace M : Mem ⟨w, []⟩ [⟨g1, .cells (av 5 (ls [.string y0, .string y1, .string sd, .string rv, .string y4])) 33⟩, ⟨g2, .cells (av 5 (ls [.int .u64 (rc : Int), .int .u64 (ct : Int), .int .u64 (rk : Int), .int .u64 (lf : Int), .int .i64 (s : Int)])) 24⟩, ⟨wd, .cells (av 3 (ls [.int .u64 (s : Int), .int .u64 0, .slice (some ⟨k, 0, none⟩) (nW s) (nW s)])) 88⟩, ⟨k, .cells (av (nW s) (w64 (fun _ => 0))) 22⟩, ⟨g3, .cells (av 1 (ls [.int .u64 (mt : Int)])) 22⟩] u6 := M
      refine pl_nil ?_
      refine au_then ?_
      refine ⟨(M.drop (.cons_cons _ (.cons_cons _ (.cons_cons _ (.cons_cons _ (.cons _ (.slnil))))))), ?_⟩
      refine hl_val (M.drop (.cons_cons _ (.cons_cons _ (.cons_cons _ (.cons_cons _ (.cons _ (.slnil))))))) 10 rfl (by decide) (by kernel_rfl) (by kernel_rfl) (want_no rfl) (some 46) rfl (.agg (av 12 (ls [.pointer (some ⟨wd, 0, none⟩), .func (.func 39) #[] #[.pointer (some ⟨g3, 0, none⟩)], .int .u64 (rc : Int), .int .u64 (ct : Int), .int .u64 (rk : Int), .int .u64 (lf : Int), .int .i64 (s : Int), .string sd, .string rv, .bool (fi), .bool (fi), .int .u64 0]))) (fun _ _ => by kernel_rfl) ?_
      refine hl_one 11 (by decide) (by kernel_rfl) rfl ?_
      refine pl_new M (want_no rfl) (some 47) rfl (.cells (av 12 (ls [.pointer (some ⟨wd, 0, none⟩), .func (.func 39) #[] #[.pointer (some ⟨g3, 0, none⟩)], .int .u64 (rc : Int), .int .u64 (ct : Int), .int .u64 (rk : Int), .int .u64 (lf : Int), .int .i64 (s : Int), .string sd, .string rv, .bool (fi), .bool (fi), .int .u64 0])) 64) (fun _ => by kernel_rfl) ?_
      intro g4 u7 M
      replace M : Mem ⟨w, []⟩ [⟨g1, .cells (av 5 (ls [.string y0, .string y1, .string sd, .string rv, .string y4])) 33⟩, ⟨g2, .cells (av 5 (ls [.int .u64 (rc : Int), .int .u64 (ct : Int), .int .u64 (rk : Int), .int .u64 (lf : Int), .int .i64 (s : Int)])) 24⟩, ⟨wd, .cells (av 3 (ls [.int .u64 (s : Int), .int .u64 0, .slice (some ⟨k, 0, none⟩) (nW s) (nW s)])) 88⟩, ⟨k, .cells (av (nW s) (w64 (fun _ => 0))) 22⟩, ⟨g3, .cells (av 1 (ls [.int .u64 (mt : Int)])) 22⟩, ⟨g4, .cells (av 12 (ls [.pointer (some ⟨wd, 0, none⟩), .func (.func 39) #[] #[.pointer (some ⟨g3, 0, none⟩)], .int .u64 (rc : Int), .int .u64 (ct : Int), .int .u64 (rk : Int), .int .u64 (lf : Int), .int .i64 (s : Int), .string sd, .string rv, .bool (fi), .bool (fi), .int .u64 0])) 64⟩] u7 := M
      refine pl_nil ?_
      refine au_then ?_
      refine ⟨(M.drop (.cons_cons _ (.cons_cons _ (.cons_cons _ (.cons_cons _ (.cons _ (.cons _ (.slnil)))))))), ?_⟩
      refine hl_val (M.drop (.cons_cons _ (.cons_cons _ (.cons_cons _ (.cons_cons _ (.cons _ (.cons _ (.slnil)))))))) 12 rfl (by decide) (by kernel_rfl) (by kernel_rfl) (want_no rfl) (some 48) rfl (.agg (av 1 (ls [.pointer (some ⟨g4, 0, none⟩)]))) (fun _ _ => by kernel_rfl) ?_
      refine hl_one 13 (by decide) (by kernel_rfl) rfl ?_
      refine pl_new M (want_no rfl) (some 49) rfl (.cells (av 1 (ls [.pointer (some ⟨g4, 0, none⟩)])) 66) (fun _ => by kernel_rfl) ?_
      intro g5 u8 M
      replace M : Mem ⟨w, []⟩ [⟨g1, .cells (av 5 (ls [.string y0, .string y1, .string sd, .string rv, .string y4])) 33⟩, ⟨g2, .cells (av 5 (ls [.int .u64 (rc : Int), .int .u64 (ct : Int), .int .u64 (rk : Int), .int .u64 (lf : Int), .int .i64 (s : Int)])) 24⟩, ⟨wd, .cells (av 3 (ls [.int .u64 (s : Int), .int .u64 0, .slice (some ⟨k, 0, none⟩) (nW s) (nW s)])) 88⟩, ⟨k, .cells (av (nW s) (w64 (fun _ => 0))) 22⟩, ⟨g3, .cells (av 1 (ls [.int .u64 (mt : Int)])) 22⟩, ⟨g4, .cells (av 12 (ls [.pointer (some ⟨wd, 0, none⟩), .func (.func 39) #[] #[.pointer (some ⟨g3, 0, none⟩)], .int .u64 (rc : Int), .int .u64 (ct : Int), .int .u64 (rk : Int), .int .u64 (lf : Int), .int .i64 (s : Int), .string sd, .string rv, .bool (fi), .bool (fi), .int .u64 0])) 64⟩, ⟨g5, .cells (av 1 (ls [.pointer (some ⟨g4, 0, none⟩)])) 66⟩] u8 := M
      refine pl_nil ?_
      refine au_then ?_
      refine ⟨(M.drop (.cons_cons _ (.cons_cons _ (.cons_cons _ (.cons_cons _ (.cons _ (.cons _ (.cons _ (.slnil))))))))), ?_⟩
      refine hl_val (M.drop (.cons_cons _ (.cons_cons _ (.cons_cons _ (.cons_cons _ (.cons _ (.cons _ (.cons _ (.slnil))))))))) 14 rfl (by decide) (by kernel_rfl) (by kernel_rfl) (want_no rfl) (some 8) rfl (.pointer (some ⟨g5, 0, none⟩)) (fun _ _ => by kernel_rfl) ?_
      refine hl_end (by kernel_rfl) (by kernel_rfl) rfl ?_
      refine pl_val (want_no rfl) (some 9) rfl (.int .i64 0) (fun _ => by kernel_rfl) ?_
      refine pl_nil ?_
      refine au_then ?_
      refine au_then ?_
      refine wp_ret ?_
      exact bodyPost_ret (v := .tuple #[.pointer (some ⟨g5, 0, none⟩), .int .i64 0]) (results_tmp2 Tryd.results6 _ _ _ _ (by kernel_rfl) (by kernel_rfl)) (by kernel_rfl) ⟨(_, _), rfl, ⟨_, _, _, _, _, _, rfl, inv_new s, by decide⟩, Mem.okT0 (T := []) ((M.drop (.cons _ (.cons _ (List.Sublist.refl _)))).perm ((List.perm_append_comm (l₁ := [_, _, _]) (l₂ := [_, _])).trans (.swap _ _ _)))⟩
    · exfalso; omega
  · exfalso; omega

set_option maxRecDepth 100000 in
set_option maxHeartbeats 4000000 in
set_option linter.unusedSimpArgs false in
theorem c_TOver {x : TS} {p e wd k md h : Nat} {m : Nat → Int} {n : Nat} (hn : n < 18446744073709551616) (w : World) (hL : Laid w)  (hT : There w [⟨p, .cells (av 1 (ls [.pointer (some ⟨e, 0, none⟩)])) 66⟩, ⟨e, .cells (av 12 (ls [.pointer (some ⟨wd, 0, none⟩), .func (.func 39) #[] #[.pointer (some ⟨md, 0, none⟩)], .int .u64 ((x.rc : Nat) : Int), .int .u64 ((x.ct : Nat) : Int), .int .u64 ((x.rk : Nat) : Int), .int .u64 ((x.lf : Nat) : Int), .int .i64 ((x.sz : Nat) : Int), .string x.sd, .string x.rv, .bool (x.fi), .bool (x.su), .int .u64 ((x.nx : Nat) : Int)])) 64⟩, ⟨wd, .cells (av 3 (ls [.int .u64 ((x.sz : Nat) : Int), .int .u64 (h : Int), .slice (some ⟨k, 0, none⟩) (nW x.sz) (nW x.sz)])) 88⟩, ⟨k, .cells (av (nW x.sz) (w64 m)) 22⟩, ⟨md, .cells (av 1 (ls [.int .u64 ((x.mt : Nat) : Int)])) 22⟩]) :
    Calls Tryd.prog 13 #[.pointer (some ⟨p, 0, none⟩), .int .u64 (n : Int)] w fun r w' => r = .returned (.bool (x.ov n)) ∧ Below w.heap.size w w' := by
  go_enter Tryd.func13, Tryd.ntmps13
  have M : Mem ⟨w, [p, e, wd, k, md]⟩ [⟨p, .cells (av 1 (ls [.pointer (some ⟨e, 0, none⟩)])) 66⟩, ⟨e, .cells (av 12 (ls [.pointer (some ⟨wd, 0, none⟩), .func (.func 39) #[] #[.pointer (some ⟨md, 0, none⟩)], .int .u64 ((x.rc : Nat) : Int), .int .u64 ((x.ct : Nat) : Int), .int .u64 ((x.rk : Nat) : Int), .int .u64 ((x.lf : Nat) : Int), .int .i64 ((x.sz : Nat) : Int), .string x.sd, .string x.rv, .bool (x.fi), .bool (x.su), .int .u64 ((x.nx : Nat) : Int)])) 64⟩, ⟨wd, .cells (av 3 (ls [.int .u64 ((x.sz : Nat) : Int), .int .u64 (h : Int), .slice (some ⟨k, 0, none⟩) (nW x.sz) (nW x.sz)])) 88⟩, ⟨k, .cells (av (nW x.sz) (w64 m)) 22⟩, ⟨md, .cells (av 1 (ls [.int .u64 ((x.mt : Nat) : Int)])) 22⟩] w := Mem.startT hL hT
  refine wp_seq ?_
  refine rg_lit ?_
  refine pl_val (want_no rfl) (some 4) rfl (.bool false) (fun _ => by kernel_rfl) ?_
  refine pl_nil ?_
  refine au_then ?_
  refine wp_seq ?_
  refine rg_lit ?_
  refine pl_val (want_no rfl) (some 5) rfl (.pointer (some ⟨p, 0, none⟩)) (fun _ => by kernel_rfl) ?_
  refine pl_call M (want_no rfl) (some 6) rfl 23 #[.pointer (some ⟨p, 0, none⟩)] (.bool true) (fun _ => by kernel_rfl) (fun w M => c_there w M.laid (M.there (.cons_cons _ (List.nil_sublist _)))) ?_
  intro u1 M
  refine pl_val (want_no rfl) (some 7) rfl (.bool false) (fun _ => by kernel_rfl) ?_
  refine pl_val (want_no rfl) (some 8) rfl (.bool false) (fun _ => by kernel_rfl) ?_
  refine pl_val (want_on 3 false rfl 8 rfl (by kernel_rfl)) (some 9) rfl (.pointer (some ⟨p, 0, none⟩)) (fun _ => by kernel_rfl) ?_
  refine pl_val (want_on 3 false rfl 8 rfl (by kernel_rfl)) (some 10) rfl (.pointer (some ⟨p, 0, none⟩)) (fun _ => by kernel_rfl) ?_
  refine pl_val (want_on 3 false rfl 8 rfl (by kernel_rfl)) (some 11) rfl (.pointer (some ⟨p, 0, none⟩)) (fun _ => by kernel_rfl) ?_
  refine pl_cell M (want_on 3 false rfl 8 rfl (by kernel_rfl)) (some 12) rfl 60 _ rfl p 0 (by kernel_rfl) (.pointer (some ⟨e, 0, none⟩)) (fun _ => by kernel_rfl) (fun w M => M.cell 0 rfl (by decide) rfl) ?_
  refine pl_val (want_on 3 false rfl 8 rfl (by kernel_rfl)) (some 13) rfl (.int .u64 (n : Int)) (fun _ => by kernel_rfl) ?_
  rcases Bool.eq_false_or_eq_true (x.ov n) with c0 | c0
  · skip
    refine pl_call M (want_on 3 false rfl 8 rfl (by kernel_rfl)) (some 14) rfl 33 #[.pointer (some ⟨e, 0, none⟩), .int .u64 (n : Int)] (.bool true) (fun _ => by kernel_rfl) (fun w M => call_val (c_over hn w M.laid (M.there (.cons _ (.cons_cons _ (.cons _ (.cons _ (.cons_cons _ (List.nil_sublist _)))))))) (congrArg Value.bool c0)) ?_
    intro u2 M
    refine pl_val (want_no rfl) (some 15) rfl (.bool true) (fun _ => by kernel_rfl) ?_
    refine pl_val (want_no rfl) (some 4) rfl (.bool true) (fun _ => by kernel_rfl) ?_
    refine pl_nil ?_
    refine au_then ?_
    refine wp_ret ?_
    have e0 : x.ov n = true := c0
    exact bodyPost_ret (v := .bool true) (results_tmp1 Tryd.results13 _ _ _ (by kernel_rfl)) (by kernel_rfl) ⟨by rw [e0], ro_T hT M⟩
  · skip
    refine pl_call M (want_on 3 false rfl 8 rfl (by kernel_rfl)) (some 14) rfl 33 #[.pointer (some ⟨e, 0, none⟩), .int .u64 (n : Int)] (.bool false) (fun _ => by kernel_rfl) (fun w M => call_val (c_over hn w M.laid (M.there (.cons _ (.cons_cons _ (.cons _ (.cons _ (.cons_cons _ (List.nil_sublist _)))))))) (congrArg Value.bool c0)) ?_
    intro u2 M
    refine pl_val (want_no rfl) (some 15) rfl (.bool false) (fun _ => by kernel_rfl) ?_
    refine pl_val (want_no rfl) (some 4) rfl (.bool false) (fun _ => by kernel_rfl) ?_
    refine pl_nil ?_
    refine au_then ?_
    refine wp_ret ?_
    have e0 : x.ov n = false := c0
    exact bodyPost_ret (v := .bool false) (results_tmp1 Tryd.results13 _ _ _ (by kernel_rfl)) (by kernel_rfl) ⟨by rw [e0], ro_T hT M⟩

set_option maxRecDepth 100000 in
set_option maxHeartbeats 4000000 in
set_option linter.unusedSimpArgs false in
theorem c_TWants {x : TS} {p e wd k md h : Nat} {m : Nat → Int} {n : Nat} (hn : n < 18446744073709551616) (w : World) (hL : Laid w)  (hT : There w [⟨p, .cells (av 1 (ls [.pointer (some ⟨e, 0, none⟩)])) 66⟩, ⟨e, .cells (av 12 (ls [.pointer (some ⟨wd, 0, none⟩), .func (.func 39) #[] #[.pointer (some ⟨md, 0, none⟩)], .int .u64 ((x.rc : Nat) : Int), .int .u64 ((x.ct : Nat) : Int), .int .u64 ((x.rk : Nat) : Int), .int .u64 ((x.lf : Nat) : Int), .int .i64 ((x.sz : Nat) : Int), .string x.sd, .string x.rv, .bool (x.fi), .bool (x.su), .int .u64 ((x.nx : Nat) : Int)])) 64⟩, ⟨wd, .cells (av 3 (ls [.int .u64 ((x.sz : Nat) : Int), .int .u64 (h : Int), .slice (some ⟨k, 0, none⟩) (nW x.sz) (nW x.sz)])) 88⟩, ⟨k, .cells (av (nW x.sz) (w64 m)) 22⟩, ⟨md, .cells (av 1 (ls [.int .u64 ((x.mt : Nat) : Int)])) 22⟩]) :
    Calls Tryd.prog 14 #[.pointer (some ⟨p, 0, none⟩), .int .u64 (n : Int)] w fun r w' => r = .returned (.bool (x.wn n)) ∧ Below w.heap.size w w' := by
  go_enter Tryd.func14, Tryd.ntmps14
  have M : Mem ⟨w, [p, e, wd, k, md]⟩ [⟨p, .cells (av 1 (ls [.pointer (some ⟨e, 0, none⟩)])) 66⟩, ⟨e, .cells (av 12 (ls [.pointer (some ⟨wd, 0, none⟩), .func (.func 39) #[] #[.pointer (some ⟨md, 0, none⟩)], .int .u64 ((x.rc : Nat) : Int), .int .u64 ((x.ct : Nat) : Int), .int .u64 ((x.rk : Nat) : Int), .int .u64 ((x.lf : Nat) : Int), .int .i64 ((x.sz : Nat) : Int), .string x.sd, .string x.rv, .bool (x.fi), .bool (x.su), .int .u64 ((x.nx : Nat) : Int)])) 64⟩, ⟨wd, .cells (av 3 (ls [.int .u64 ((x.sz : Nat) : Int), .int .u64 (h : Int), .slice (some ⟨k, 0, none⟩) (nW x.sz) (nW x.sz)])) 88⟩, ⟨k, .cells (av (nW x.sz) (w64 m)) 22⟩, ⟨md, .cells (av 1 (ls [.int .u64 ((x.mt : Nat) : Int)])) 22⟩] w := Mem.startT hL hT
  refine wp_seq ?_
  refine rg_lit ?_
  refine pl_val (want_no rfl) (some 4) rfl (.bool false) (fun _ => by kernel_rfl) ?_
  refine pl_nil ?_
  refine au_then ?_
  refine wp_seq ?_
  refine rg_lit ?_
  refine pl_val (want_no rfl) (some 5) rfl (.pointer (some ⟨p, 0, none⟩)) (fun _ => by kernel_rfl) ?_
  refine pl_call M (want_no rfl) (some 6) rfl 23 #[.pointer (some ⟨p, 0, none⟩)] (.bool true) (fun _ => by kernel_rfl) (fun w M => c_there w M.laid (M.there (.cons_cons _ (List.nil_sublist _)))) ?_
  intro u1 M
  refine pl_val (want_no rfl) (some 7) rfl (.bool true) (fun _ => by kernel_rfl) ?_
  refine pl_val (want_on 2 true rfl 7 rfl (by kernel_rfl)) (some 8) rfl (.pointer (some ⟨p, 0, none⟩)) (fun _ => by kernel_rfl) ?_
  refine pl_val (want_on 2 true rfl 7 rfl (by kernel_rfl)) (some 9) rfl (.pointer (some ⟨p, 0, none⟩)) (fun _ => by kernel_rfl) ?_
  refine pl_val (want_on 2 true rfl 7 rfl (by kernel_rfl)) (some 10) rfl (.pointer (some ⟨p, 0, none⟩)) (fun _ => by kernel_rfl) ?_
  refine pl_cell M (want_on 2 true rfl 7 rfl (by kernel_rfl)) (some 11) rfl 60 _ rfl p 0 (by kernel_rfl) (.pointer (some ⟨e, 0, none⟩)) (fun _ => by kernel_rfl) (fun w M => M.cell 0 rfl (by decide) rfl) ?_
  refine pl_val (want_on 2 true rfl 7 rfl (by kernel_rfl)) (some 12) rfl (.int .u64 (n : Int)) (fun _ => by kernel_rfl) ?_
  rcases Bool.eq_false_or_eq_true (x.wn n) with c0 | c0
  · skip
    refine pl_call M (want_on 2 true rfl 7 rfl (by kernel_rfl)) (some 13) rfl 34 #[.pointer (some ⟨e, 0, none⟩), .int .u64 (n : Int)] (.bool true) (fun _ => by kernel_rfl) (fun w M => call_val (c_wants hn w M.laid (M.there (.cons _ (.cons_cons _ (.cons _ (.cons _ (.cons_cons _ (List.nil_sublist _)))))))) (congrArg Value.bool c0)) ?_
    intro u2 M
    refine pl_val (want_no rfl) (some 14) rfl (.bool true) (fun _ => by kernel_rfl) ?_
    refine pl_val (want_no rfl) (some 4) rfl (.bool true) (fun _ => by kernel_rfl) ?_
    refine pl_nil ?_
    refine au_then ?_
    refine wp_ret ?_
    have e0 : x.wn n = true := c0
    exact bodyPost_ret (v := .bool true) (results_tmp1 Tryd.results14 _ _ _ (by kernel_rfl)) (by kernel_rfl) ⟨by rw [e0], ro_T hT M⟩
  · skip
    refine pl_call M (want_on 2 true rfl 7 rfl (by kernel_rfl)) (some 13) rfl 34 #[.pointer (some ⟨e, 0, none⟩), .int .u64 (n : Int)] (.bool false) (fun _ => by kernel_rfl) (fun w M => call_val (c_wants hn w M.laid (M.there (.cons _ (.cons_cons _ (.cons _ (.cons _ (.cons_cons _ (List.nil_sublist _)))))))) (congrArg Value.bool c0)) ?_
    intro u2 M
    refine pl_val (want_no rfl) (some 14) rfl (.bool false) (fun _ => by kernel_rfl) ?_
    refine pl_val (want_no rfl) (some 4) rfl (.bool false) (fun _ => by kernel_rfl) ?_
    refine pl_nil ?_
    refine au_then ?_
    refine wp_ret ?_
    have e0 : x.wn n = false := c0
    exact bodyPost_ret (v := .bool false) (results_tmp1 Tryd.results14 _ _ _ (by kernel_rfl)) (by kernel_rfl) ⟨by rw [e0], ro_T hT M⟩

set_option maxRecDepth 100000 in
set_option maxHeartbeats 4000000 in
set_option linter.unusedSimpArgs false in
theorem c_TSure {x : TS} {p e wd k md h : Nat} {m : Nat → Int} (w : World) (hL : Laid w)  (hT : There w [⟨p, .cells (av 1 (ls [.pointer (some ⟨e, 0, none⟩)])) 66⟩, ⟨e, .cells (av 12 (ls [.pointer (some ⟨wd, 0, none⟩), .func (.func 39) #[] #[.pointer (some ⟨md, 0, none⟩)], .int .u64 ((x.rc : Nat) : Int), .int .u64 ((x.ct : Nat) : Int), .int .u64 ((x.rk : Nat) : Int), .int .u64 ((x.lf : Nat) : Int), .int .i64 ((x.sz : Nat) : Int), .string x.sd, .string x.rv, .bool (x.fi), .bool (x.su), .int .u64 ((x.nx : Nat) : Int)])) 64⟩, ⟨wd, .cells (av 3 (ls [.int .u64 ((x.sz : Nat) : Int), .int .u64 (h : Int), .slice (some ⟨k, 0, none⟩) (nW x.sz) (nW x.sz)])) 88⟩, ⟨k, .cells (av (nW x.sz) (w64 m)) 22⟩, ⟨md, .cells (av 1 (ls [.int .u64 ((x.mt : Nat) : Int)])) 22⟩]) :
    Calls Tryd.prog 15 #[.pointer (some ⟨p, 0, none⟩)] w fun r w' => r = .returned (.bool (x.su)) ∧ Below w.heap.size w w' := by
  go_enter Tryd.func15, Tryd.ntmps15
  have M : Mem ⟨w, [p, e, wd, k, md]⟩ [⟨p, .cells (av 1 (ls [.pointer (some ⟨e, 0, none⟩)])) 66⟩, ⟨e, .cells (av 12 (ls [.pointer (some ⟨wd, 0, none⟩), .func (.func 39) #[] #[.pointer (some ⟨md, 0, none⟩)], .int .u64 ((x.rc : Nat) : Int), .int .u64 ((x.ct : Nat) : Int), .int .u64 ((x.rk : Nat) : Int), .int .u64 ((x.lf : Nat) : Int), .int .i64 ((x.sz : Nat) : Int), .string x.sd, .string x.rv, .bool (x.fi), .bool (x.su), .int .u64 ((x.nx : Nat) : Int)])) 64⟩, ⟨wd, .cells (av 3 (ls [.int .u64 ((x.sz : Nat) : Int), .int .u64 (h : Int), .slice (some ⟨k, 0, none⟩) (nW x.sz) (nW x.sz)])) 88⟩, ⟨k, .cells (av (nW x.sz) (w64 m)) 22⟩, ⟨md, .cells (av 1 (ls [.int .u64 ((x.mt : Nat) : Int)])) 22⟩] w := Mem.startT hL hT
  refine wp_seq ?_
  refine rg_lit ?_
  refine pl_val (want_no rfl) (some 2) rfl (.bool false) (fun _ => by kernel_rfl) ?_
  refine pl_nil ?_
  refine au_then ?_
  refine wp_seq ?_
  refine rg_lit ?_
  refine pl_val (want_no rfl) (some 3) rfl (.pointer (some ⟨p, 0, none⟩)) (fun _ => by kernel_rfl) ?_
  refine pl_call M (want_no rfl) (some 4) rfl 23 #[.pointer (some ⟨p, 0, none⟩)] (.bool true) (fun _ => by kernel_rfl) (fun w M => c_there w M.laid (M.there (.cons_cons _ (List.nil_sublist _)))) ?_
  intro u1 M
  refine pl_val (want_no rfl) (some 5) rfl (.bool true) (fun _ => by kernel_rfl) ?_
  refine pl_val (want_on 2 true rfl 5 rfl (by kernel_rfl)) (some 6) rfl (.pointer (some ⟨p, 0, none⟩)) (fun _ => by kernel_rfl) ?_
  refine pl_val (want_on 2 true rfl 5 rfl (by kernel_rfl)) (some 7) rfl (.pointer (some ⟨p, 0, none⟩)) (fun _ => by kernel_rfl) ?_
  refine pl_val (want_on 2 true rfl 5 rfl (by kernel_rfl)) (some 8) rfl (.pointer (some ⟨p, 0, none⟩)) (fun _ => by kernel_rfl) ?_
  refine pl_cell M (want_on 2 true rfl 5 rfl (by kernel_rfl)) (some 9) rfl 60 _ rfl p 0 (by kernel_rfl) (.pointer (some ⟨e, 0, none⟩)) (fun _ => by kernel_rfl) (fun w M => M.cell 0 rfl (by decide) rfl) ?_
  refine pl_val (want_on 2 true rfl 5 rfl (by kernel_rfl)) (some 10) rfl (.pointer (some ⟨e, 0, none⟩)) (fun _ => by kernel_rfl) ?_
  refine pl_val (want_on 2 true rfl 5 rfl (by kernel_rfl)) (some 11) rfl (.pointer (some ⟨e, 10, none⟩)) (fun _ => by kernel_rfl) ?_
  rcases Bool.eq_false_or_eq_true (x.su) with c0 | c0
  · skip
    refine pl_cell M (want_on 2 true rfl 5 rfl (by kernel_rfl)) (some 12) rfl 4 _ rfl e 10 (by kernel_rfl) (.bool true) (fun _ => by kernel_rfl) (fun w M => M.cell 1 rfl (by decide) (congrArg Value.bool c0)) ?_
    refine pl_val (want_no rfl) (some 13) rfl (.bool true) (fun _ => by kernel_rfl) ?_
    refine pl_val (want_no rfl) (some 2) rfl (.bool true) (fun _ => by kernel_rfl) ?_
    refine pl_nil ?_
    refine au_then ?_
    refine wp_ret ?_
    have e0 : x.su = true := c0
    exact bodyPost_ret (v := .bool true) (results_tmp1 Tryd.results15 _ _ _ (by kernel_rfl)) (by kernel_rfl) ⟨by rw [e0], ro_T hT M⟩
  · skip
    refine pl_cell M (want_on 2 true rfl 5 rfl (by kernel_rfl)) (some 12) rfl 4 _ rfl e 10 (by kernel_rfl) (.bool false) (fun _ => by kernel_rfl) (fun w M => M.cell 1 rfl (by decide) (congrArg Value.bool c0)) ?_
    refine pl_val (want_no rfl) (some 13) rfl (.bool false) (fun _ => by kernel_rfl) ?_
    refine pl_val (want_no rfl) (some 2) rfl (.bool false) (fun _ => by kernel_rfl) ?_
    refine pl_nil ?_
    refine au_then ?_
    refine wp_ret ?_
    have e0 : x.su = false := c0
    exact bodyPost_ret (v := .bool false) (results_tmp1 Tryd.results15 _ _ _ (by kernel_rfl)) (by kernel_rfl) ⟨by rw [e0], ro_T hT M⟩

set_option maxRecDepth 100000 in
set_option maxHeartbeats 4000000 in
set_option linter.unusedSimpArgs false in
theorem c_TSent {x : TS} {p e wd k md h : Nat} {m : Nat → Int} (w : World) (hL : Laid w)  (hT : There w [⟨p, .cells (av 1 (ls [.pointer (some ⟨e, 0, none⟩)])) 66⟩, ⟨e, .cells (av 12 (ls [.pointer (some ⟨wd, 0, none⟩), .func (.func 39) #[] #[.pointer (some ⟨md, 0, none⟩)], .int .u64 ((x.rc : Nat) : Int), .int .u64 ((x.ct : Nat) : Int), .int .u64 ((x.rk : Nat) : Int), .int .u64 ((x.lf : Nat) : Int), .int .i64 ((x.sz : Nat) : Int), .string x.sd, .string x.rv, .bool (x.fi), .bool (x.su), .int .u64 ((x.nx : Nat) : Int)])) 64⟩, ⟨wd, .cells (av 3 (ls [.int .u64 ((x.sz : Nat) : Int), .int .u64 (h : Int), .slice (some ⟨k, 0, none⟩) (nW x.sz) (nW x.sz)])) 88⟩, ⟨k, .cells (av (nW x.sz) (w64 m)) 22⟩, ⟨md, .cells (av 1 (ls [.int .u64 ((x.mt : Nat) : Int)])) 22⟩]) :
    Calls Tryd.prog 16 #[.pointer (some ⟨p, 0, none⟩)] w fun r w' => r = .returned (.int .u64 ((x.nx : Nat) : Int)) ∧ Below w.heap.size w w' := by
  go_enter Tryd.func16, Tryd.ntmps16
  have M : Mem ⟨w, [p, e, wd, k, md]⟩ [⟨p, .cells (av 1 (ls [.pointer (some ⟨e, 0, none⟩)])) 66⟩, ⟨e, .cells (av 12 (ls [.pointer (some ⟨wd, 0, none⟩), .func (.func 39) #[] #[.pointer (some ⟨md, 0, none⟩)], .int .u64 ((x.rc : Nat) : Int), .int .u64 ((x.ct : Nat) : Int), .int .u64 ((x.rk : Nat) : Int), .int .u64 ((x.lf : Nat) : Int), .int .i64 ((x.sz : Nat) : Int), .string x.sd, .string x.rv, .bool (x.fi), .bool (x.su), .int .u64 ((x.nx : Nat) : Int)])) 64⟩, ⟨wd, .cells (av 3 (ls [.int .u64 ((x.sz : Nat) : Int), .int .u64 (h : Int), .slice (some ⟨k, 0, none⟩) (nW x.sz) (nW x.sz)])) 88⟩, ⟨k, .cells (av (nW x.sz) (w64 m)) 22⟩, ⟨md, .cells (av 1 (ls [.int .u64 ((x.mt : Nat) : Int)])) 22⟩] w := Mem.startT hL hT
  refine wp_seq ?_
  refine rg_lit ?_
  refine pl_val (want_no rfl) (some 2) rfl (.int .u64 0) (fun _ => by kernel_rfl) ?_
  refine pl_nil ?_
  refine au_then ?_
  refine wp_seq ?_
  refine wp_seq ?_
  refine rg_lit ?_
  refine pl_val (want_no rfl) (some 3) rfl (.pointer (some ⟨p, 0, none⟩)) (fun _ => by kernel_rfl) ?_
  refine pl_call M (want_no rfl) (some 4) rfl 23 #[.pointer (some ⟨p, 0, none⟩)] (.bool true) (fun _ => by kernel_rfl) (fun w M => c_there w M.laid (M.there (.cons_cons _ (List.nil_sublist _)))) ?_
  intro u1 M
  refine pl_val (want_no rfl) (some 5) rfl (.bool false) (fun _ => by kernel_rfl) ?_
  refine pl_nil ?_
  refine au_then ?_
  refine wp_cond_false (by kernel_rfl) ?_
  refine wp_skip ?_
  refine au_then ?_
  refine wp_seq ?_
  refine rg_lit ?_
  refine pl_val (want_no rfl) (some 6) rfl (.pointer (some ⟨p, 0, none⟩)) (fun _ => by kernel_rfl) ?_
  refine pl_val (want_no rfl) (some 7) rfl (.pointer (some ⟨p, 0, none⟩)) (fun _ => by kernel_rfl) ?_
  refine pl_val (want_no rfl) (some 8) rfl (.pointer (some ⟨p, 0, none⟩)) (fun _ => by kernel_rfl) ?_
  refine pl_cell M (want_no rfl) (some 9) rfl 60 _ rfl p 0 (by kernel_rfl) (.pointer (some ⟨e, 0, none⟩)) (fun _ => by kernel_rfl) (fun w M => M.cell 0 rfl (by decide) rfl) ?_
  refine pl_val (want_no rfl) (some 10) rfl (.pointer (some ⟨e, 0, none⟩)) (fun _ => by kernel_rfl) ?_
  refine pl_val (want_no rfl) (some 11) rfl (.pointer (some ⟨e, 11, none⟩)) (fun _ => by kernel_rfl) ?_
  refine pl_cell M (want_no rfl) (some 12) rfl 22 _ rfl e 11 (by kernel_rfl) (.int .u64 ((x.nx : Nat) : Int)) (fun _ => by kernel_rfl) (fun w M => M.cell 1 rfl (by decide) rfl) ?_
  refine pl_val (want_no rfl) (some 2) rfl (.int .u64 ((x.nx : Nat) : Int)) (fun _ => by kernel_rfl) ?_
  refine pl_nil ?_
  refine au_then ?_
  refine wp_ret ?_
  exact bodyPost_ret (v := .int .u64 ((x.nx : Nat) : Int)) (results_tmp1 Tryd.results16 _ _ _ (by kernel_rfl)) (by kernel_rfl) ⟨rfl, ro_T hT M⟩

set_option maxRecDepth 100000 in
set_option maxHeartbeats 4000000 in
set_option linter.unusedSimpArgs false in
theorem c_TSeal {x : TS} {p e wd k md h : Nat} {m : Nat → Int} {s : ByteArray} {n : Nat} (hn : n < 18446744073709551616) (hx : x.nx + 1 < 18446744073709551616) (w : World) (hL : Laid w)  (hT : There w [⟨p, .cells (av 1 (ls [.pointer (some ⟨e, 0, none⟩)])) 66⟩, ⟨e, .cells (av 12 (ls [.pointer (some ⟨wd, 0, none⟩), .func (.func 39) #[] #[.pointer (some ⟨md, 0, none⟩)], .int .u64 ((x.rc : Nat) : Int), .int .u64 ((x.ct : Nat) : Int), .int .u64 ((x.rk : Nat) : Int), .int .u64 ((x.lf : Nat) : Int), .int .i64 ((x.sz : Nat) : Int), .string x.sd, .string x.rv, .bool (x.fi), .bool (x.su), .int .u64 ((x.nx : Nat) : Int)])) 64⟩, ⟨wd, .cells (av 3 (ls [.int .u64 ((x.sz : Nat) : Int), .int .u64 (h : Int), .slice (some ⟨k, 0, none⟩) (nW x.sz) (nW x.sz)])) 88⟩, ⟨k, .cells (av (nW x.sz) (w64 m)) 22⟩, ⟨md, .cells (av 1 (ls [.int .u64 ((x.mt : Nat) : Int)])) 22⟩]) :
    Calls Tryd.prog 8 #[.pointer (some ⟨p, 0, none⟩), .int .u64 (n : Int), .string s] w fun r w' => r = .returned (.tuple #[.int .u64 ((x.sN n s : Nat) : Int), .string (x.sC n s), .int .i64 (x.sE n s)]) ∧ OkT w w' (tB x p e wd k md h m) (tB (x.sX n s) p e wd k md h m) := by
  go_enter Tryd.func8, Tryd.ntmps8
  have M : Mem ⟨w, [p, e, wd, k, md]⟩ [⟨p, .cells (av 1 (ls [.pointer (some ⟨e, 0, none⟩)])) 66⟩, ⟨e, .cells (av 12 (ls [.pointer (some ⟨wd, 0, none⟩), .func (.func 39) #[] #[.pointer (some ⟨md, 0, none⟩)], .int .u64 ((x.rc : Nat) : Int), .int .u64 ((x.ct : Nat) : Int), .int .u64 ((x.rk : Nat) : Int), .int .u64 ((x.lf : Nat) : Int), .int .i64 ((x.sz : Nat) : Int), .string x.sd, .string x.rv, .bool (x.fi), .bool (x.su), .int .u64 ((x.nx : Nat) : Int)])) 64⟩, ⟨wd, .cells (av 3 (ls [.int .u64 ((x.sz : Nat) : Int), .int .u64 (h : Int), .slice (some ⟨k, 0, none⟩) (nW x.sz) (nW x.sz)])) 88⟩, ⟨k, .cells (av (nW x.sz) (w64 m)) 22⟩, ⟨md, .cells (av 1 (ls [.int .u64 ((x.mt : Nat) : Int)])) 22⟩] w := Mem.startT hL hT
  refine wp_seq ?_
  refine rg_lit ?_
  refine pl_val (want_no rfl) (some 6) rfl (.int .u64 0) (fun _ => by kernel_rfl) ?_
  refine pl_val (want_no rfl) (some 7) rfl (.string ⟨#[]⟩) (fun _ => by kernel_rfl) ?_
  refine pl_val (want_no rfl) (some 8) rfl (.int .i64 0) (fun _ => by kernel_rfl) ?_
  refine pl_nil ?_
  refine au_then ?_
  refine wp_seq ?_
  refine wp_seq ?_
  refine rg_lit ?_
  refine pl_val (want_no rfl) (some 10) rfl (.pointer (some ⟨p, 0, none⟩)) (fun _ => by kernel_rfl) ?_
  refine pl_call M (want_no rfl) (some 11) rfl 23 #[.pointer (some ⟨p, 0, none⟩)] (.bool true) (fun _ => by kernel_rfl) (fun w M => c_there w M.laid (M.there (.cons_cons _ (List.nil_sublist _)))) ?_
  intro u1 M
  refine pl_val (want_no rfl) (some 12) rfl (.bool false) (fun _ => by kernel_rfl) ?_
  refine pl_nil ?_
  refine au_then ?_
  refine wp_cond_false (by kernel_rfl) ?_
  refine wp_skip ?_
  refine au_then ?_
  refine wp_seq ?_
  refine wp_seq ?_
  refine rg_lit ?_
  refine pl_val (want_no rfl) (some 13) rfl (.pointer (some ⟨p, 0, none⟩)) (fun _ => by kernel_rfl) ?_
  refine pl_val (want_no rfl) (some 14) rfl (.pointer (some ⟨p, 0, none⟩)) (fun _ => by kernel_rfl) ?_
  refine pl_val (want_no rfl) (some 15) rfl (.pointer (some ⟨p, 0, none⟩)) (fun _ => by kernel_rfl) ?_
  refine pl_cell M (want_no rfl) (some 16) rfl 60 _ rfl p 0 (by kernel_rfl) (.pointer (some ⟨e, 0, none⟩)) (fun _ => by kernel_rfl) (fun w M => M.cell 0 rfl (by decide) rfl) ?_
  refine pl_val (want_no rfl) (some 17) rfl (.int .u64 (n : Int)) (fun _ => by kernel_rfl) ?_
  refine pl_call M (want_no rfl) (some 18) rfl 24 #[.pointer (some ⟨e, 0, none⟩), .int .u64 (n : Int)] (.int .i64 (slF x.sd x.su x.ct x.lf x.nx x.mt n)) (fun _ => by kernel_rfl) (fun w M => c_sealFault hn w M.laid (M.there (.cons _ (.cons_cons _ (.cons _ (.cons _ (.cons_cons _ (List.nil_sublist _)))))))) ?_
  intro u2 M
  refine pl_val (want_no rfl) (some 9) rfl (.int .i64 (slF x.sd x.su x.ct x.lf x.nx x.mt n)) (fun _ => by kernel_rfl) ?_
  refine pl_nil ?_
  refine au_then ?_
  refine wp_seq ?_
  refine rg_lit ?_
  refine pl_val (want_no rfl) (some 19) rfl (.int .i64 (slF x.sd x.su x.ct x.lf x.nx x.mt n)) (fun _ => by kernel_rfl) ?_
  by_cases c0 : (slF x.sd x.su x.ct x.lf x.nx x.mt n) = 0
  · skip
    refine pl_val (want_no rfl) (some 20) rfl (.bool false) (fun w => Eq.trans (b := .ok (.value (.bool (!(decide ((slF x.sd x.su x.ct x.lf x.nx x.mt n) = 0))))) w) (by kernel_rfl) (by rw [decide_eq_true (c0)]; rfl)) ?_
    refine pl_nil ?_
    refine au_then ?_
    refine wp_cond_false (by kernel_rfl) ?_
    refine wp_skip ?_
    refine au_then ?_
    refine wp_seq ?_
    refine rg_lit ?_
    refine pl_val (want_no rfl) (some 22) rfl (.pointer (some ⟨p, 0, none⟩)) (fun _ => by kernel_rfl) ?_
    refine pl_val (want_no rfl) (some 23) rfl (.pointer (some ⟨p, 0, none⟩)) (fun _ => by kernel_rfl) ?_
    refine pl_val (want_no rfl) (some 24) rfl (.pointer (some ⟨p, 0, none⟩)) (fun _ => by kernel_rfl) ?_
    refine pl_cell M (want_no rfl) (some 25) rfl 60 _ rfl p 0 (by kernel_rfl) (.pointer (some ⟨e, 0, none⟩)) (fun _ => by kernel_rfl) (fun w M => M.cell 0 rfl (by decide) rfl) ?_
    refine pl_val (want_no rfl) (some 26) rfl (.string s) (fun _ => by kernel_rfl) ?_
    refine pl_callp M (want_no rfl) (some 27) rfl 25 #[.pointer (some ⟨e, 0, none⟩), .string s] (.tuple #[.int .u64 ((slN x.sd x.nx s : Nat) : Int), .string (slC x.sd x.nx s), .int .i64 (slZ x.sd x.nx s)]) 1 e (.cells (av 12 (ls [.pointer (some ⟨wd, 0, none⟩), .func (.func 39) #[] #[.pointer (some ⟨md, 0, none⟩)], .int .u64 ((x.rc : Nat) : Int), .int .u64 ((x.ct : Nat) : Int), .int .u64 ((x.rk : Nat) : Int), .int .u64 ((x.lf : Nat) : Int), .int .i64 ((x.sz : Nat) : Int), .string x.sd, .string x.rv, .bool (x.fi), .bool (x.su), .int .u64 ((x.nx : Nat) : Int)])) 64) (.cells (av 12 (ls [.pointer (some ⟨wd, 0, none⟩), .func (.func 39) #[] #[.pointer (some ⟨md, 0, none⟩)], .int .u64 ((x.rc : Nat) : Int), .int .u64 ((x.ct : Nat) : Int), .int .u64 ((x.rk : Nat) : Int), .int .u64 ((x.lf : Nat) : Int), .int .i64 ((x.sz : Nat) : Int), .string x.sd, .string x.rv, .bool (x.fi), .bool (x.su), .int .u64 ((slX x.sd x.nx s : Nat) : Int)])) 64) rfl (fun _ => by kernel_rfl) (fun w M => c_seal hx w M.laid (M.there (.cons _ (.cons_cons _ (List.nil_sublist _))))) ?_
    intro u3 M
    replace M : Mem ⟨w, [p, e, wd, k, md]⟩ [⟨p, .cells (av 1 (ls [.pointer (some ⟨e, 0, none⟩)])) 66⟩, ⟨e, .cells (av 12 (ls [.pointer (some ⟨wd, 0, none⟩), .func (.func 39) #[] #[.pointer (some ⟨md, 0, none⟩)], .int .u64 ((x.rc : Nat) : Int), .int .u64 ((x.ct : Nat) : Int), .int .u64 ((x.rk : Nat) : Int), .int .u64 ((x.lf : Nat) : Int), .int .i64 ((x.sz : Nat) : Int), .string x.sd, .string x.rv, .bool (x.fi), .bool (x.su), .int .u64 ((slX x.sd x.nx s : Nat) : Int)])) 64⟩, ⟨wd, .cells (av 3 (ls [.int .u64 ((x.sz : Nat) : Int), .int .u64 (h : Int), .slice (some ⟨k, 0, none⟩) (nW x.sz) (nW x.sz)])) 88⟩, ⟨k, .cells (av (nW x.sz) (w64 m)) 22⟩, ⟨md, .cells (av 1 (ls [.int .u64 ((x.mt : Nat) : Int)])) 22⟩] u3 := M
    refine pl_val (want_no rfl) (some 28) rfl (.int .u64 ((slN x.sd x.nx s : Nat) : Int)) (fun _ => by kernel_rfl) ?_
    refine pl_val (want_no rfl) (some 29) rfl (.string (slC x.sd x.nx s)) (fun _ => by kernel_rfl) ?_
    refine pl_val (want_no rfl) (some 30) rfl (.int .i64 (slZ x.sd x.nx s)) (fun _ => by kernel_rfl) ?_
    refine pl_val (want_no rfl) (some 6) rfl (.int .u64 ((slN x.sd x.nx s : Nat) : Int)) (fun _ => by kernel_rfl) ?_
    refine pl_val (want_no rfl) (some 7) rfl (.string (slC x.sd x.nx s)) (fun _ => by kernel_rfl) ?_
    refine pl_val (want_no rfl) (some 8) rfl (.int .i64 (slZ x.sd x.nx s)) (fun _ => by kernel_rfl) ?_
    refine pl_nil ?_
    refine au_then ?_
    refine wp_ret ?_
    have e0 : x.sF n = (slF x.sd x.su x.ct x.lf x.nx x.mt n) := rfl
    exact bodyPost_ret (v := .tuple #[.int .u64 ((slN x.sd x.nx s : Nat) : Int), .string (slC x.sd x.nx s), .int .i64 (slZ x.sd x.nx s)]) (results_t3 Tryd.results8 _ _ _ _ _ (by kernel_rfl) (by kernel_rfl) (by kernel_rfl)) (by kernel_rfl) ⟨by unfold TS.sN TS.sC TS.sE; rw [e0, if_pos c0, if_pos c0, if_pos c0], by unfold TS.sX; rw [e0, if_pos c0]; exact M.okT0⟩
  · skip
    refine pl_val (want_no rfl) (some 20) rfl (.bool true) (fun w => Eq.trans (b := .ok (.value (.bool (!(decide ((slF x.sd x.su x.ct x.lf x.nx x.mt n) = 0))))) w) (by kernel_rfl) (by rw [decide_eq_false (c0)]; rfl)) ?_
    refine pl_nil ?_
    refine au_then ?_
    refine wp_cond_true (by kernel_rfl) ?_
    refine wp_seq ?_
    refine rg_lit ?_
    refine pl_val (want_no rfl) (some 21) rfl (.int .i64 (slF x.sd x.su x.ct x.lf x.nx x.mt n)) (fun _ => by kernel_rfl) ?_
    refine pl_val (want_no rfl) (some 6) rfl (.int .u64 0) (fun _ => by kernel_rfl) ?_
    refine pl_val (want_no rfl) (some 7) rfl (.string ⟨#[]⟩) (fun _ => by kernel_rfl) ?_
    refine pl_val (want_no rfl) (some 8) rfl (.int .i64 (slF x.sd x.su x.ct x.lf x.nx x.mt n)) (fun _ => by kernel_rfl) ?_
    refine pl_nil ?_
    refine au_then ?_
    refine wp_ret ?_
    refine au_then_ret ?_
    have e0 : x.sF n = (slF x.sd x.su x.ct x.lf x.nx x.mt n) := rfl
    exact bodyPost_ret (v := .tuple #[.int .u64 0, .string ⟨#[]⟩, .int .i64 (slF x.sd x.su x.ct x.lf x.nx x.mt n)]) (results_t3 Tryd.results8 _ _ _ _ _ (by kernel_rfl) (by kernel_rfl) (by kernel_rfl)) (by kernel_rfl) ⟨by unfold TS.sN TS.sC TS.sE; rw [e0, if_neg c0, if_neg c0, if_neg c0]; rfl, by unfold TS.sX; rw [e0, if_neg c0]; exact M.okT0⟩

set_option maxRecDepth 100000 in
set_option maxHeartbeats 4000000 in
set_option linter.unusedSimpArgs false in
theorem c_TOpen {x : TS} {p e wd k md h : Nat} {m : Nat → Int} {i : Nat} {c : ByteArray} {n : Nat} (hn : n < 18446744073709551616) (hi : i < 18446744073709551616) (hs : 1 ≤ x.sz) (hh : h < 18446744073709551616) (I : Inv x.sz h m x.q) (w : World) (hL : Laid w)  (hT : There w [⟨p, .cells (av 1 (ls [.pointer (some ⟨e, 0, none⟩)])) 66⟩, ⟨e, .cells (av 12 (ls [.pointer (some ⟨wd, 0, none⟩), .func (.func 39) #[] #[.pointer (some ⟨md, 0, none⟩)], .int .u64 ((x.rc : Nat) : Int), .int .u64 ((x.ct : Nat) : Int), .int .u64 ((x.rk : Nat) : Int), .int .u64 ((x.lf : Nat) : Int), .int .i64 ((x.sz : Nat) : Int), .string x.sd, .string x.rv, .bool (x.fi), .bool (x.su), .int .u64 ((x.nx : Nat) : Int)])) 64⟩, ⟨wd, .cells (av 3 (ls [.int .u64 ((x.sz : Nat) : Int), .int .u64 (h : Int), .slice (some ⟨k, 0, none⟩) (nW x.sz) (nW x.sz)])) 88⟩, ⟨k, .cells (av (nW x.sz) (w64 m)) 22⟩, ⟨md, .cells (av 1 (ls [.int .u64 ((x.mt : Nat) : Int)])) 22⟩]) :
    Calls Tryd.prog 9 #[.pointer (some ⟨p, 0, none⟩), .int .u64 (n : Int), .int .u64 (i : Int), .string c] w fun r w' => ∃ y : Nat × (Nat → Int), r = .returned (.tuple #[.string (x.oC n i c), .int .i64 (x.oE n i c)]) ∧ (Inv (x.oX n i c).sz y.1 y.2 (x.oX n i c).q ∧ y.1 < 18446744073709551616) ∧ OkT w w' (tB x p e wd k md h m) (tB (x.oX n i c) p e wd k md y.1 y.2) := by
  go_enter Tryd.func9, Tryd.ntmps9
  have M : Mem ⟨w, [p, e, wd, k, md]⟩ [⟨p, .cells (av 1 (ls [.pointer (some ⟨e, 0, none⟩)])) 66⟩, ⟨e, .cells (av 12 (ls [.pointer (some ⟨wd, 0, none⟩), .func (.func 39) #[] #[.pointer (some ⟨md, 0, none⟩)], .int .u64 ((x.rc : Nat) : Int), .int .u64 ((x.ct : Nat) : Int), .int .u64 ((x.rk : Nat) : Int), .int .u64 ((x.lf : Nat) : Int), .int .i64 ((x.sz : Nat) : Int), .string x.sd, .string x.rv, .bool (x.fi), .bool (x.su), .int .u64 ((x.nx : Nat) : Int)])) 64⟩, ⟨wd, .cells (av 3 (ls [.int .u64 ((x.sz : Nat) : Int), .int .u64 (h : Int), .slice (some ⟨k, 0, none⟩) (nW x.sz) (nW x.sz)])) 88⟩, ⟨k, .cells (av (nW x.sz) (w64 m)) 22⟩, ⟨md, .cells (av 1 (ls [.int .u64 ((x.mt : Nat) : Int)])) 22⟩] w := Mem.startT hL hT
  refine wp_seq ?_
  refine rg_lit ?_
  refine pl_val (want_no rfl) (some 8) rfl (.string ⟨#[]⟩) (fun _ => by kernel_rfl) ?_
  refine pl_val (want_no rfl) (some 9) rfl (.int .i64 0) (fun _ => by kernel_rfl) ?_
  refine pl_nil ?_
  refine au_then ?_
  refine wp_seq ?_
  refine wp_seq ?_
  refine rg_lit ?_
  refine pl_val (want_no rfl) (some 11) rfl (.pointer (some ⟨p, 0, none⟩)) (fun _ => by kernel_rfl) ?_
  refine pl_call M (want_no rfl) (some 12) rfl 23 #[.pointer (some ⟨p, 0, none⟩)] (.bool true) (fun _ => by kernel_rfl) (fun w M => c_there w M.laid (M.there (.cons_cons _ (List.nil_sublist _)))) ?_
  intro u1 M
  refine pl_val (want_no rfl) (some 13) rfl (.bool false) (fun _ => by kernel_rfl) ?_
  refine pl_nil ?_
  refine au_then ?_
  refine wp_cond_false (by kernel_rfl) ?_
  refine wp_skip ?_
  refine au_then ?_
  refine wp_seq ?_
  refine wp_seq ?_
  refine rg_lit ?_
  refine pl_val (want_no rfl) (some 14) rfl (.pointer (some ⟨p, 0, none⟩)) (fun _ => by kernel_rfl) ?_
  refine pl_val (want_no rfl) (some 15) rfl (.pointer (some ⟨p, 0, none⟩)) (fun _ => by kernel_rfl) ?_
  refine pl_val (want_no rfl) (some 16) rfl (.pointer (some ⟨p, 0, none⟩)) (fun _ => by kernel_rfl) ?_
  refine pl_cell M (want_no rfl) (some 17) rfl 60 _ rfl p 0 (by kernel_rfl) (.pointer (some ⟨e, 0, none⟩)) (fun _ => by kernel_rfl) (fun w M => M.cell 0 rfl (by decide) rfl) ?_
  refine pl_val (want_no rfl) (some 18) rfl (.int .u64 (n : Int)) (fun _ => by kernel_rfl) ?_
  refine pl_val (want_no rfl) (some 19) rfl (.int .u64 (i : Int)) (fun _ => by kernel_rfl) ?_
  refine pl_call M (want_no rfl) (some 20) rfl 26 #[.pointer (some ⟨e, 0, none⟩), .int .u64 (n : Int), .int .u64 (i : Int)] (.int .i64 (opF x.sd x.ct x.lf x.sz x.mt x.q n i)) (fun _ => by kernel_rfl) (fun w M => c_openFault hs hh I hn hi w M.laid (M.there (.cons _ (.cons_cons _ (.cons_cons _ (.cons_cons _ (.cons_cons _ (List.nil_sublist _)))))))) ?_
  intro u2 M
  refine pl_val (want_no rfl) (some 10) rfl (.int .i64 (opF x.sd x.ct x.lf x.sz x.mt x.q n i)) (fun _ => by kernel_rfl) ?_
  refine pl_nil ?_
  refine au_then ?_
  refine wp_seq ?_
  refine rg_lit ?_
  refine pl_val (want_no rfl) (some 21) rfl (.int .i64 (opF x.sd x.ct x.lf x.sz x.mt x.q n i)) (fun _ => by kernel_rfl) ?_
  by_cases c0 : (opF x.sd x.ct x.lf x.sz x.mt x.q n i) = 0
  · skip
    refine pl_val (want_no rfl) (some 22) rfl (.bool false) (fun w => Eq.trans (b := .ok (.value (.bool (!(decide ((opF x.sd x.ct x.lf x.sz x.mt x.q n i) = 0))))) w) (by kernel_rfl) (by rw [decide_eq_true (c0)]; rfl)) ?_
    refine pl_nil ?_
    refine au_then ?_
    refine wp_cond_false (by kernel_rfl) ?_
    refine wp_skip ?_
    refine au_then ?_
    refine wp_seq ?_
    refine rg_lit ?_
    refine pl_val (want_no rfl) (some 24) rfl (.pointer (some ⟨p, 0, none⟩)) (fun _ => by kernel_rfl) ?_
    refine pl_val (want_no rfl) (some 25) rfl (.pointer (some ⟨p, 0, none⟩)) (fun _ => by kernel_rfl) ?_
    refine pl_val (want_no rfl) (some 26) rfl (.pointer (some ⟨p, 0, none⟩)) (fun _ => by kernel_rfl) ?_
    refine pl_cell M (want_no rfl) (some 27) rfl 60 _ rfl p 0 (by kernel_rfl) (.pointer (some ⟨e, 0, none⟩)) (fun _ => by kernel_rfl) (fun w M => M.cell 0 rfl (by decide) rfl) ?_
    refine pl_val (want_no rfl) (some 28) rfl (.int .u64 (i : Int)) (fun _ => by kernel_rfl) ?_
    refine pl_val (want_no rfl) (some 29) rfl (.string c) (fun _ => by kernel_rfl) ?_
    refine pl_callM M (want_no rfl) (some 30) rfl 27 #[.pointer (some ⟨e, 0, none⟩), .int .u64 (i : Int), .string c] [⟨p, .cells (av 1 (ls [.pointer (some ⟨e, 0, none⟩)])) 66⟩] [⟨e, .cells (av 12 (ls [.pointer (some ⟨wd, 0, none⟩), .func (.func 39) #[] #[.pointer (some ⟨md, 0, none⟩)], .int .u64 ((x.rc : Nat) : Int), .int .u64 ((x.ct : Nat) : Int), .int .u64 ((x.rk : Nat) : Int), .int .u64 ((x.lf : Nat) : Int), .int .i64 ((x.sz : Nat) : Int), .string x.sd, .string x.rv, .bool (x.fi), .bool (x.su), .int .u64 ((x.nx : Nat) : Int)])) 64⟩, ⟨wd, .cells (av 3 (ls [.int .u64 ((x.sz : Nat) : Int), .int .u64 (h : Int), .slice (some ⟨k, 0, none⟩) (nW x.sz) (nW x.sz)])) 88⟩, ⟨k, .cells (av (nW x.sz) (w64 m)) 22⟩] [⟨md, .cells (av 1 (ls [.int .u64 ((x.mt : Nat) : Int)])) 22⟩] (by simp only [List.append_assoc, List.cons_append, List.nil_append, List.append_nil]) (fun y : Nat × (Nat → Int) => .tuple #[.string (opC x.rv i c), .int .i64 (opZ x.rv i c)]) (fun y : Nat × (Nat → Int) => [⟨e, .cells (av 12 (ls [.pointer (some ⟨wd, 0, none⟩), .func (.func 39) #[] #[.pointer (some ⟨md, 0, none⟩)], .int .u64 ((x.rc : Nat) : Int), .int .u64 ((x.ct : Nat) : Int), .int .u64 ((x.rk : Nat) : Int), .int .u64 ((x.lf : Nat) : Int), .int .i64 ((x.sz : Nat) : Int), .string x.sd, .string x.rv, .bool (x.fi), .bool (opU x.su x.rv i c), .int .u64 ((x.nx : Nat) : Int)])) 64⟩, ⟨wd, .cells (av 3 (ls [.int .u64 ((x.sz : Nat) : Int), .int .u64 ((y.1 : Nat) : Int), .slice (some ⟨k, 0, none⟩) (nW x.sz) (nW x.sz)])) 88⟩, ⟨k, .cells (av (nW x.sz) (w64 y.2)) 22⟩]) (fun y : Nat × (Nat → Int) => Inv x.sz y.1 y.2 (opQ x.sz x.q x.rv i c) ∧ y.1 < 18446744073709551616) (fun _ => by kernel_rfl) (fun w hL hT => c_open hs hh I hi w hL hT) ?_
    rintro ⟨h2, m2⟩ u3 ⟨I2, hh2⟩ M
    replace M : Mem ⟨w, [p, e, wd, k, md]⟩ [⟨p, .cells (av 1 (ls [.pointer (some ⟨e, 0, none⟩)])) 66⟩, ⟨e, .cells (av 12 (ls [.pointer (some ⟨wd, 0, none⟩), .func (.func 39) #[] #[.pointer (some ⟨md, 0, none⟩)], .int .u64 ((x.rc : Nat) : Int), .int .u64 ((x.ct : Nat) : Int), .int .u64 ((x.rk : Nat) : Int), .int .u64 ((x.lf : Nat) : Int), .int .i64 ((x.sz : Nat) : Int), .string x.sd, .string x.rv, .bool (x.fi), .bool (opU x.su x.rv i c), .int .u64 ((x.nx : Nat) : Int)])) 64⟩, ⟨wd, .cells (av 3 (ls [.int .u64 ((x.sz : Nat) : Int), .int .u64 (h2 : Int), .slice (some ⟨k, 0, none⟩) (nW x.sz) (nW x.sz)])) 88⟩, ⟨k, .cells (av (nW x.sz) (w64 m2)) 22⟩, ⟨md, .cells (av 1 (ls [.int .u64 ((x.mt : Nat) : Int)])) 22⟩] u3 := by simpa only [List.append_assoc, List.cons_append, List.nil_append, List.append_nil] using M
    refine pl_val (want_no rfl) (some 31) rfl (.string (opC x.rv i c)) (fun _ => by kernel_rfl) ?_
    refine pl_val (want_no rfl) (some 32) rfl (.int .i64 (opZ x.rv i c)) (fun _ => by kernel_rfl) ?_
    refine pl_val (want_no rfl) (some 8) rfl (.string (opC x.rv i c)) (fun _ => by kernel_rfl) ?_
    refine pl_val (want_no rfl) (some 9) rfl (.int .i64 (opZ x.rv i c)) (fun _ => by kernel_rfl) ?_
    refine pl_nil ?_
    refine au_then ?_
    refine wp_ret ?_
    have e0 : x.oF n i = (opF x.sd x.ct x.lf x.sz x.mt x.q n i) := rfl
    exact bodyPost_ret (v := .tuple #[.string (opC x.rv i c), .int .i64 (opZ x.rv i c)]) (results_tmp2 Tryd.results9 _ _ _ _ (by kernel_rfl) (by kernel_rfl)) (by kernel_rfl) ⟨(h2, m2), by unfold TS.oC TS.oE; rw [e0, if_pos c0, if_pos c0], by unfold TS.oX; rw [e0, if_pos c0]; exact ⟨I2, hh2⟩, by unfold TS.oX; rw [e0, if_pos c0]; exact M.okT0⟩
  · skip
    refine pl_val (want_no rfl) (some 22) rfl (.bool true) (fun w => Eq.trans (b := .ok (.value (.bool (!(decide ((opF x.sd x.ct x.lf x.sz x.mt x.q n i) = 0))))) w) (by kernel_rfl) (by rw [decide_eq_false (c0)]; rfl)) ?_
    refine pl_nil ?_
    refine au_then ?_
    refine wp_cond_true (by kernel_rfl) ?_
    refine wp_seq ?_
    refine rg_lit ?_
    refine pl_val (want_no rfl) (some 23) rfl (.int .i64 (opF x.sd x.ct x.lf x.sz x.mt x.q n i)) (fun _ => by kernel_rfl) ?_
    refine pl_val (want_no rfl) (some 8) rfl (.string ⟨#[]⟩) (fun _ => by kernel_rfl) ?_
    refine pl_val (want_no rfl) (some 9) rfl (.int .i64 (opF x.sd x.ct x.lf x.sz x.mt x.q n i)) (fun _ => by kernel_rfl) ?_
    refine pl_nil ?_
    refine au_then ?_
    refine wp_ret ?_
    refine au_then_ret ?_
    have e0 : x.oF n i = (opF x.sd x.ct x.lf x.sz x.mt x.q n i) := rfl
    exact bodyPost_ret (v := .tuple #[.string ⟨#[]⟩, .int .i64 (opF x.sd x.ct x.lf x.sz x.mt x.q n i)]) (results_tmp2 Tryd.results9 _ _ _ _ (by kernel_rfl) (by kernel_rfl)) (by kernel_rfl) ⟨(h, m), by unfold TS.oC TS.oE; rw [e0, if_neg c0, if_neg c0], by unfold TS.oX; rw [e0, if_neg c0]; exact ⟨I, hh⟩, by unfold TS.oX; rw [e0, if_neg c0]; exact M.okT0⟩

set_option maxRecDepth 100000 in
set_option maxHeartbeats 4000000 in
set_option linter.unusedSimpArgs false in
theorem c_TWipe {x : TS} {p e wd k md h : Nat} {m : Nat → Int} (w : World) (hL : Laid w)  (hT : There w [⟨p, .cells (av 1 (ls [.pointer (some ⟨e, 0, none⟩)])) 66⟩, ⟨e, .cells (av 12 (ls [.pointer (some ⟨wd, 0, none⟩), .func (.func 39) #[] #[.pointer (some ⟨md, 0, none⟩)], .int .u64 ((x.rc : Nat) : Int), .int .u64 ((x.ct : Nat) : Int), .int .u64 ((x.rk : Nat) : Int), .int .u64 ((x.lf : Nat) : Int), .int .i64 ((x.sz : Nat) : Int), .string x.sd, .string x.rv, .bool (x.fi), .bool (x.su), .int .u64 ((x.nx : Nat) : Int)])) 64⟩, ⟨wd, .cells (av 3 (ls [.int .u64 ((x.sz : Nat) : Int), .int .u64 (h : Int), .slice (some ⟨k, 0, none⟩) (nW x.sz) (nW x.sz)])) 88⟩, ⟨k, .cells (av (nW x.sz) (w64 m)) 22⟩, ⟨md, .cells (av 1 (ls [.int .u64 ((x.mt : Nat) : Int)])) 22⟩]) :
    Calls Tryd.prog 10 #[.pointer (some ⟨p, 0, none⟩)] w fun r w' => r = .returned (.tuple #[]) ∧ OkT w w' (tB x p e wd k md h m) (tB x.wX p e wd k md h m) := by
  go_enter Tryd.func10, Tryd.ntmps10
  have M : Mem ⟨w, [p, e, wd, k, md]⟩ [⟨p, .cells (av 1 (ls [.pointer (some ⟨e, 0, none⟩)])) 66⟩, ⟨e, .cells (av 12 (ls [.pointer (some ⟨wd, 0, none⟩), .func (.func 39) #[] #[.pointer (some ⟨md, 0, none⟩)], .int .u64 ((x.rc : Nat) : Int), .int .u64 ((x.ct : Nat) : Int), .int .u64 ((x.rk : Nat) : Int), .int .u64 ((x.lf : Nat) : Int), .int .i64 ((x.sz : Nat) : Int), .string x.sd, .string x.rv, .bool (x.fi), .bool (x.su), .int .u64 ((x.nx : Nat) : Int)])) 64⟩, ⟨wd, .cells (av 3 (ls [.int .u64 ((x.sz : Nat) : Int), .int .u64 (h : Int), .slice (some ⟨k, 0, none⟩) (nW x.sz) (nW x.sz)])) 88⟩, ⟨k, .cells (av (nW x.sz) (w64 m)) 22⟩, ⟨md, .cells (av 1 (ls [.int .u64 ((x.mt : Nat) : Int)])) 22⟩] w := Mem.startT hL hT
  refine wp_seq ?_
  refine rg_lit ?_
  refine pl_val (want_no rfl) (some 2) rfl (.pointer (some ⟨p, 0, none⟩)) (fun _ => by kernel_rfl) ?_
  refine pl_call M (want_no rfl) (some 3) rfl 23 #[.pointer (some ⟨p, 0, none⟩)] (.bool true) (fun _ => by kernel_rfl) (fun w M => c_there w M.laid (M.there (.cons_cons _ (List.nil_sublist _)))) ?_
  intro u1 M
  refine pl_nil ?_
  refine au_then ?_
  refine wp_cond_true (by kernel_rfl) ?_
  refine rg_lit ?_
  refine pl_val (want_no rfl) (some 4) rfl (.pointer (some ⟨p, 0, none⟩)) (fun _ => by kernel_rfl) ?_
  refine pl_val (want_no rfl) (some 5) rfl (.pointer (some ⟨p, 0, none⟩)) (fun _ => by kernel_rfl) ?_
  refine pl_val (want_no rfl) (some 6) rfl (.pointer (some ⟨p, 0, none⟩)) (fun _ => by kernel_rfl) ?_
  refine pl_cell M (want_no rfl) (some 7) rfl 60 _ rfl p 0 (by kernel_rfl) (.pointer (some ⟨e, 0, none⟩)) (fun _ => by kernel_rfl) (fun w M => M.cell 0 rfl (by decide) rfl) ?_
  refine pl_callp M (want_no rfl) (some 8) rfl 28 #[.pointer (some ⟨e, 0, none⟩)] (.tuple #[]) 1 e (.cells (av 12 (ls [.pointer (some ⟨wd, 0, none⟩), .func (.func 39) #[] #[.pointer (some ⟨md, 0, none⟩)], .int .u64 ((x.rc : Nat) : Int), .int .u64 ((x.ct : Nat) : Int), .int .u64 ((x.rk : Nat) : Int), .int .u64 ((x.lf : Nat) : Int), .int .i64 ((x.sz : Nat) : Int), .string x.sd, .string x.rv, .bool (x.fi), .bool (x.su), .int .u64 ((x.nx : Nat) : Int)])) 64) (.cells (av 12 (ls [.pointer (some ⟨wd, 0, none⟩), .func (.func 39) #[] #[.pointer (some ⟨md, 0, none⟩)], .int .u64 ((x.rc : Nat) : Int), .int .u64 ((x.ct : Nat) : Int), .int .u64 ((x.rk : Nat) : Int), .int .u64 ((x.lf : Nat) : Int), .int .i64 ((x.sz : Nat) : Int), .string ⟨#[]⟩, .string ⟨#[]⟩, .bool (x.fi), .bool (x.su), .int .u64 ((x.nx : Nat) : Int)])) 64) rfl (fun _ => by kernel_rfl) (fun w M => c_wipeE w M.laid (M.there (.cons _ (.cons_cons _ (List.nil_sublist _))))) ?_
  intro u2 M
  replace M : Mem ⟨w, [p, e, wd, k, md]⟩ [⟨p, .cells (av 1 (ls [.pointer (some ⟨e, 0, none⟩)])) 66⟩, ⟨e, .cells (av 12 (ls [.pointer (some ⟨wd, 0, none⟩), .func (.func 39) #[] #[.pointer (some ⟨md, 0, none⟩)], .int .u64 ((x.rc : Nat) : Int), .int .u64 ((x.ct : Nat) : Int), .int .u64 ((x.rk : Nat) : Int), .int .u64 ((x.lf : Nat) : Int), .int .i64 ((x.sz : Nat) : Int), .string ⟨#[]⟩, .string ⟨#[]⟩, .bool (x.fi), .bool (x.su), .int .u64 ((x.nx : Nat) : Int)])) 64⟩, ⟨wd, .cells (av 3 (ls [.int .u64 ((x.sz : Nat) : Int), .int .u64 (h : Int), .slice (some ⟨k, 0, none⟩) (nW x.sz) (nW x.sz)])) 88⟩, ⟨k, .cells (av (nW x.sz) (w64 m)) 22⟩, ⟨md, .cells (av 1 (ls [.int .u64 ((x.mt : Nat) : Int)])) 22⟩] u2 := M
  refine pl_nil ?_
  exact bodyPost_end (v := .tuple #[]) (results_none Tryd.results10 _ _) (by kernel_rfl) ⟨rfl, M.okT0⟩


end Go.Proofs.YtenafinbaanicaaDoor
