/- Part 5 of the walks and facts behind msgBack_holds. -/
import Derived.Test.YtbechjlkmajcoaaBa4
import Derived.Carry
import Derived.OpenShut
import Derived.ProofKit
import Derived.ShutString
import Derived.SizedLaws
namespace Go.Proofs.Ytbechjlkmajcoaa
open Go.RowKit
set_option maxRecDepth 100000 in
set_option maxHeartbeats 4000000 in
set_option linter.unusedSimpArgs false in
theorem c_back (m : Mg) (s : ByteArray) (hb : bgM m) (hr : okM m) (w : World) (hL : Laid w)  :
  Calls Try.prog 5 #[.agg (av 17 (ls [.int .u8 m.ty, .string m.fr, .string m.tq, .int .u32 m.ix, .int .u32 m.pe, .int .u64 m.ct, .int .u64 m.ba, .int .u64 m.ve, .string m.tx, .bool (m.ev), .int .u64 m.eh, .int .u64 m.el, .int .u16 m.ep, .int .u16 m.co, .string m.tt, .string m.da, .string m.sg])), .string s] w fun r w' => r = .returned (.bool true) ∧ Below w.heap.size w w' := by
 go_enter Try.func5, Try.ntmps5
 have M := Mem.start hL
 refine sR ?_
 refine pN M 2 (.cells (av 17 (ls [.int .u8 m.ty, .string m.fr, .string m.tq, .int .u32 m.ix, .int .u32 m.pe, .int .u64 m.ct, .int .u64 m.ba, .int .u64 m.ve, .string m.tx, .bool (m.ev), .int .u64 m.eh, .int .u64 m.el, .int .u16 m.ep, .int .u16 m.co, .string m.tt, .string m.da, .string m.sg])) 30) fun g1 u1 M => ?_
 replace M : Mem ⟨w, []⟩ [⟨g1, .cells (av 17 (ls [.int .u8 m.ty, .string m.fr, .string m.tq, .int .u32 m.ix, .int .u32 m.pe, .int .u64 m.ct, .int .u64 m.ba, .int .u64 m.ve, .string m.tx, .bool (m.ev), .int .u64 m.eh, .int .u64 m.el, .int .u16 m.ep, .int .u16 m.co, .string m.tt, .string m.da, .string m.sg])) 30⟩] u1 := M
 refine pV 4 (.bool false) ?_
 refine nT ?_
 refine wp_seq ?_
 refine sR ?_
 refine pAz M 13 0 17 (ls [.int .u8 m.ty, .string m.fr, .string m.tq, .int .u32 m.ix, .int .u32 m.pe, .int .u64 m.ct, .int .u64 m.ba, .int .u64 m.ve, .string m.tx, .bool (m.ev), .int .u64 m.eh, .int .u64 m.el, .int .u16 m.ep, .int .u16 m.co, .string m.tt, .string m.da, .string m.sg]) ?_
 rcases Bool.eq_false_or_eq_true (hvB m) with c0 | c0
 ·skip
  refine pC M 14 8 #[.agg (av 17 (ls [.int .u8 m.ty, .string m.fr, .string m.tq, .int .u32 m.ix, .int .u32 m.pe, .int .u64 m.ct, .int .u64 m.ba, .int .u64 m.ve, .string m.tx, .bool (m.ev), .int .u64 m.eh, .int .u64 m.el, .int .u16 m.ep, .int .u16 m.co, .string m.tt, .string m.da, .string m.sg]))] (.bool true) (fun w M => call_val (c_heavy m hb w M.laid) (congrArg Value.bool c0)) fun u2 M => ?_
  refine pV 15 (.bool true) ?_
  refine pl_skip (want_off 2 false rfl 15 rfl (by kernel_rfl)) (some 16) rfl ?_
  refine pl_skip (want_off 2 false rfl 15 rfl (by kernel_rfl)) (some 17) rfl ?_
  refine pl_skip (want_off 2 false rfl 15 rfl (by kernel_rfl)) (some 18) rfl ?_
  refine pV 19 (.bool true) ?_
  refine nT ?_
  refine wp_cond_true (by kernel_rfl) ?_
  refine sR ?_
  refine pC M 20 9 #[] (.bool true) (fun w M => c_works w M.laid) fun u3 M => ?_
  refine pV 4 (.bool true) ?_
  refine nT ?_
  refine wp_ret ?_
  refine au_then_ret ?_
  exact bodyPost_ret (v := .bool true) (results_tmp1 Try.results5 _ _ _ (by kernel_rfl)) (by kernel_rfl) ⟨rfl, below_grown M.old⟩
 ·skip
  refine pC M 14 8 #[.agg (av 17 (ls [.int .u8 m.ty, .string m.fr, .string m.tq, .int .u32 m.ix, .int .u32 m.pe, .int .u64 m.ct, .int .u64 m.ba, .int .u64 m.ve, .string m.tx, .bool (m.ev), .int .u64 m.eh, .int .u64 m.el, .int .u16 m.ep, .int .u16 m.co, .string m.tt, .string m.da, .string m.sg]))] (.bool false) (fun w M => call_val (c_heavy m hb w M.laid) (congrArg Value.bool c0)) fun u2 M => ?_
  refine pV 15 (.bool false) ?_
  refine pl_val (want_on 2 false rfl 15 rfl (by kernel_rfl)) (some 16) rfl (.string s) (fun _ => by kernel_rfl) ?_
  refine pl_val (want_on 2 false rfl 15 rfl (by kernel_rfl)) (some 17) rfl (.int .i64 (s.size : Int)) (fun _ => by kernel_rfl) ?_
  by_cases c1 : 131072 < (s.size : Int)
  ·skip
   refine pl_val (want_on 2 false rfl 15 rfl (by kernel_rfl)) (some 18) rfl (.bool true) (fun w => Eq.trans (b := .ok (.value (.bool (decide (131072 < (s.size : Int))))) w) (by kernel_rfl) (by rw [decide_eq_true (c1)])) ?_
   refine pV 19 (.bool true) ?_
   refine nT ?_
   refine wp_cond_true (by kernel_rfl) ?_
   refine sR ?_
   refine pC M 20 9 #[] (.bool true) (fun w M => c_works w M.laid) fun u3 M => ?_
   refine pV 4 (.bool true) ?_
   refine nT ?_
   refine wp_ret ?_
   refine au_then_ret ?_
   exact bodyPost_ret (v := .bool true) (results_tmp1 Try.results5 _ _ _ (by kernel_rfl)) (by kernel_rfl) ⟨rfl, below_grown M.old⟩
  ·skip
   refine pl_val (want_on 2 false rfl 15 rfl (by kernel_rfl)) (some 18) rfl (.bool false) (fun w => Eq.trans (b := .ok (.value (.bool (decide (131072 < (s.size : Int))))) w) (by kernel_rfl) (by rw [decide_eq_false (c1)])) ?_
   refine pV 19 (.bool false) ?_
   refine nT ?_
   refine wp_cond_false (by kernel_rfl) ?_
   refine wp_skip ?_
   refine au_then ?_
   refine sR ?_
   refine pAz M 22 0 17 (ls [.int .u8 m.ty, .string m.fr, .string m.tq, .int .u32 m.ix, .int .u32 m.pe, .int .u64 m.ct, .int .u64 m.ba, .int .u64 m.ve, .string m.tx, .bool (m.ev), .int .u64 m.eh, .int .u64 m.el, .int .u16 m.ep, .int .u16 m.co, .string m.tt, .string m.da, .string m.sg]) ?_
   refine pC M 23 10 #[.agg (av 17 (ls [.int .u8 m.ty, .string m.fr, .string m.tq, .int .u32 m.ix, .int .u32 m.pe, .int .u64 m.ct, .int .u64 m.ba, .int .u64 m.ve, .string m.tx, .bool (m.ev), .int .u64 m.eh, .int .u64 m.el, .int .u16 m.ep, .int .u16 m.co, .string m.tt, .string m.da, .string m.sg]))] (.tuple #[.string (eO m), .int .i64 (mE m)]) (fun w M => c_Encode m hr.ty (hv_sm c0) w M.laid) fun u3 M => ?_
   refine pV 21 (.tuple #[.string (eO m), .int .i64 (mE m)]) ?_
   refine pV 24 (.string (eO m)) ?_
   refine pV 25 (.int .i64 (mE m)) ?_
   refine pV 5 (.string (eO m)) ?_
   refine pV 6 (.int .i64 (mE m)) ?_
   refine nT ?_
   refine wp_seq ?_
   refine sR ?_
   refine pV 26 (.int .i64 (mE m)) ?_
   by_cases c2 : (mE m) = 0
   ·skip
    refine pH 27 (.bool true) (dTz ((mE m) = 0) (c2)) ?_
    refine nT ?_
    refine wp_cond_true (by kernel_rfl) ?_
    refine sR ?_
    refine pV 29 (.string (eO m)) ?_
    refine pC M 30 18 #[.string (eO m)] (.tuple #[.agg (av 17 (ls [.int .u8 m.ty, .string m.fr, .string m.tq, .int .u32 m.ix, .int .u32 m.pe, .int .u64 m.ct, .int .u64 m.ba, .int .u64 m.ve, .string m.tx, .bool (m.ev), .int .u64 m.eh, .int .u64 m.el, .int .u16 m.ep, .int .u16 m.co, .string m.tt, .string m.da, .string m.sg])), .int .i64 0]) (fun w M => call_val (c_Decode (eO m) w M.laid) (by rw [(de_eO hr c2).1, (de_eO hr c2).2])) fun u4 M => ?_
    refine pV 28 (.tuple #[.agg (av 17 (ls [.int .u8 m.ty, .string m.fr, .string m.tq, .int .u32 m.ix, .int .u32 m.pe, .int .u64 m.ct, .int .u64 m.ba, .int .u64 m.ve, .string m.tx, .bool (m.ev), .int .u64 m.eh, .int .u64 m.el, .int .u16 m.ep, .int .u16 m.co, .string m.tt, .string m.da, .string m.sg])), .int .i64 0]) ?_
    refine pV 31 (.agg (av 17 (ls [.int .u8 m.ty, .string m.fr, .string m.tq, .int .u32 m.ix, .int .u32 m.pe, .int .u64 m.ct, .int .u64 m.ba, .int .u64 m.ve, .string m.tx, .bool (m.ev), .int .u64 m.eh, .int .u64 m.el, .int .u16 m.ep, .int .u16 m.co, .string m.tt, .string m.da, .string m.sg]))) ?_
    refine pV 32 (.int .i64 0) ?_
    refine pN M 7 (.cells (av 17 (ls [.int .u8 0, .string ⟨#[]⟩, .string ⟨#[]⟩, .int .u32 0, .int .u32 0, .int .u64 0, .int .u64 0, .int .u64 0, .string ⟨#[]⟩, .bool false, .int .u64 0, .int .u64 0, .int .u16 0, .int .u16 0, .string ⟨#[]⟩, .string ⟨#[]⟩, .string ⟨#[]⟩])) 30) fun g2 u5 M => ?_
    replace M : Mem ⟨w, []⟩ [⟨g1, .cells (av 17 (ls [.int .u8 m.ty, .string m.fr, .string m.tq, .int .u32 m.ix, .int .u32 m.pe, .int .u64 m.ct, .int .u64 m.ba, .int .u64 m.ve, .string m.tx, .bool (m.ev), .int .u64 m.eh, .int .u64 m.el, .int .u16 m.ep, .int .u16 m.co, .string m.tt, .string m.da, .string m.sg])) 30⟩, ⟨g2, .cells (av 17 (ls [.int .u8 0, .string ⟨#[]⟩, .string ⟨#[]⟩, .int .u32 0, .int .u32 0, .int .u64 0, .int .u64 0, .int .u64 0, .string ⟨#[]⟩, .bool false, .int .u64 0, .int .u64 0, .int .u16 0, .int .u16 0, .string ⟨#[]⟩, .string ⟨#[]⟩, .string ⟨#[]⟩])) 30⟩] u5 := M
    refine pl_put M (want_no rfl) rfl 30 _ _ rfl 1 g2 0 (by kernel_rfl) 17 30 (ls [.int .u8 0, .string ⟨#[]⟩, .string ⟨#[]⟩, .int .u32 0, .int .u32 0, .int .u64 0, .int .u64 0, .int .u64 0, .string ⟨#[]⟩, .bool false, .int .u64 0, .int .u64 0, .int .u16 0, .int .u16 0, .string ⟨#[]⟩, .string ⟨#[]⟩, .string ⟨#[]⟩]) rfl 17 (ls [.int .u8 m.ty, .string m.fr, .string m.tq, .int .u32 m.ix, .int .u32 m.pe, .int .u64 m.ct, .int .u64 m.ba, .int .u64 m.ve, .string m.tx, .bool (m.ev), .int .u64 m.eh, .int .u64 m.el, .int .u16 m.ep, .int .u16 m.co, .string m.tt, .string m.da, .string m.sg]) (ls [.int .u8 m.ty, .string m.fr, .string m.tq, .int .u32 m.ix, .int .u32 m.pe, .int .u64 m.ct, .int .u64 m.ba, .int .u64 m.ve, .string m.tx, .bool (m.ev), .int .u64 m.eh, .int .u64 m.el, .int .u16 m.ep, .int .u16 m.co, .string m.tt, .string m.da, .string m.sg]) (by kernel_rfl) inz30 (by decide) (one_ls _ rfl) (fun j hj => by rw [if_pos (by omega), Nat.sub_zero]) fun u6 M => ?_
    replace M : Mem ⟨w, []⟩ [⟨g1, .cells (av 17 (ls [.int .u8 m.ty, .string m.fr, .string m.tq, .int .u32 m.ix, .int .u32 m.pe, .int .u64 m.ct, .int .u64 m.ba, .int .u64 m.ve, .string m.tx, .bool (m.ev), .int .u64 m.eh, .int .u64 m.el, .int .u16 m.ep, .int .u16 m.co, .string m.tt, .string m.da, .string m.sg])) 30⟩, ⟨g2, .cells (av 17 (ls [.int .u8 m.ty, .string m.fr, .string m.tq, .int .u32 m.ix, .int .u32 m.pe, .int .u64 m.ct, .int .u64 m.ba, .int .u64 m.ve, .string m.tx, .bool (m.ev), .int .u64 m.eh, .int .u64 m.el, .int .u16 m.ep, .int .u16 m.co, .string m.tt, .string m.da, .string m.sg])) 30⟩] u6 := M
    refine pV 8 (.int .i64 0) ?_
    refine nT ?_
    refine sR ?_
    refine pV 33 (.int .i64 0) ?_
    refine pV 34 (.bool false) ?_
    refine pV 35 (.bool false) ?_
    refine pl_load M (want_on 2 false rfl 35 rfl (by kernel_rfl)) (some 36) rfl 30 _ rfl 1 g2 0 (by kernel_rfl) 17 30 (ls [.int .u8 m.ty, .string m.fr, .string m.tq, .int .u32 m.ix, .int .u32 m.pe, .int .u64 m.ct, .int .u64 m.ba, .int .u64 m.ve, .string m.tx, .bool (m.ev), .int .u64 m.eh, .int .u64 m.el, .int .u16 m.ep, .int .u16 m.co, .string m.tt, .string m.da, .string m.sg]) rfl 17 (ls [.int .u8 m.ty, .string m.fr, .string m.tq, .int .u32 m.ix, .int .u32 m.pe, .int .u64 m.ct, .int .u64 m.ba, .int .u64 m.ve, .string m.tx, .bool (m.ev), .int .u64 m.eh, .int .u64 m.el, .int .u16 m.ep, .int .u16 m.co, .string m.tt, .string m.da, .string m.sg]) (fun j _ => by rw [Nat.zero_add]) (by decide) _ Try.underlying30 rfl inz30 ?_
    refine pl_load M (want_on 2 false rfl 35 rfl (by kernel_rfl)) (some 37) rfl 30 _ rfl 0 g1 0 (by kernel_rfl) 17 30 (ls [.int .u8 m.ty, .string m.fr, .string m.tq, .int .u32 m.ix, .int .u32 m.pe, .int .u64 m.ct, .int .u64 m.ba, .int .u64 m.ve, .string m.tx, .bool (m.ev), .int .u64 m.eh, .int .u64 m.el, .int .u16 m.ep, .int .u16 m.co, .string m.tt, .string m.da, .string m.sg]) rfl 17 (ls [.int .u8 m.ty, .string m.fr, .string m.tq, .int .u32 m.ix, .int .u32 m.pe, .int .u64 m.ct, .int .u64 m.ba, .int .u64 m.ve, .string m.tx, .bool (m.ev), .int .u64 m.eh, .int .u64 m.el, .int .u16 m.ep, .int .u16 m.co, .string m.tt, .string m.da, .string m.sg]) (fun j _ => by rw [Nat.zero_add]) (by decide) _ Try.underlying30 rfl inz30 ?_
    refine pl_val (want_on 2 false rfl 35 rfl (by kernel_rfl)) (some 38) rfl (.bool false) (fun w => (neq30 m.ty m.ty m.fr m.fr m.tq m.tq m.ix m.ix m.pe m.pe m.ct m.ct m.ba m.ba m.ve m.ve m.tx m.tx m.ev m.ev m.eh m.eh m.el m.el m.ep m.ep m.co m.co m.tt m.tt m.da m.da m.sg m.sg _ _ rfl (by kernel_rfl) (by kernel_rfl) w).trans (by rw [decide_eq_true (⟨rfl, rfl, rfl, rfl, rfl, rfl, rfl, rfl, rfl, rfl, rfl, rfl, rfl, rfl, rfl, rfl, rfl⟩ : m.ty = m.ty ∧ m.fr = m.fr ∧ m.tq = m.tq ∧ m.ix = m.ix ∧ m.pe = m.pe ∧ m.ct = m.ct ∧ m.ba = m.ba ∧ m.ve = m.ve ∧ m.tx = m.tx ∧ m.ev = m.ev ∧ m.eh = m.eh ∧ m.el = m.el ∧ m.ep = m.ep ∧ m.co = m.co ∧ m.tt = m.tt ∧ m.da = m.da ∧ m.sg = m.sg)]; rfl)) ?_
    refine pV 39 (.bool false) ?_
    refine nT ?_
    refine wp_cond_false (by kernel_rfl) ?_
    refine wp_skip ?_
    refine au_then ?_
    refine sR ?_
    refine pV 41 (.string s) ?_
    by_cases c3 : (deE s) = 0
    ·skip
     refine pC M 42 18 #[.string s] (.tuple #[.agg (av 17 (ls [.int .u8 (deM s).ty, .string (deM s).fr, .string (deM s).tq, .int .u32 (deM s).ix, .int .u32 (deM s).pe, .int .u64 (deM s).ct, .int .u64 (deM s).ba, .int .u64 (deM s).ve, .string (deM s).tx, .bool ((deM s).ev), .int .u64 (deM s).eh, .int .u64 (deM s).el, .int .u16 (deM s).ep, .int .u16 (deM s).co, .string (deM s).tt, .string (deM s).da, .string (deM s).sg])), .int .i64 0]) (fun w M => call_val (c_Decode s w M.laid) (by rw [c3])) fun u7 M => ?_
     refine pV 40 (.tuple #[.agg (av 17 (ls [.int .u8 (deM s).ty, .string (deM s).fr, .string (deM s).tq, .int .u32 (deM s).ix, .int .u32 (deM s).pe, .int .u64 (deM s).ct, .int .u64 (deM s).ba, .int .u64 (deM s).ve, .string (deM s).tx, .bool ((deM s).ev), .int .u64 (deM s).eh, .int .u64 (deM s).el, .int .u16 (deM s).ep, .int .u16 (deM s).co, .string (deM s).tt, .string (deM s).da, .string (deM s).sg])), .int .i64 0]) ?_
     refine pV 43 (.agg (av 17 (ls [.int .u8 (deM s).ty, .string (deM s).fr, .string (deM s).tq, .int .u32 (deM s).ix, .int .u32 (deM s).pe, .int .u64 (deM s).ct, .int .u64 (deM s).ba, .int .u64 (deM s).ve, .string (deM s).tx, .bool ((deM s).ev), .int .u64 (deM s).eh, .int .u64 (deM s).el, .int .u16 (deM s).ep, .int .u16 (deM s).co, .string (deM s).tt, .string (deM s).da, .string (deM s).sg]))) ?_
     refine pV 44 (.int .i64 0) ?_
     refine pN M 9 (.cells (av 17 (ls [.int .u8 0, .string ⟨#[]⟩, .string ⟨#[]⟩, .int .u32 0, .int .u32 0, .int .u64 0, .int .u64 0, .int .u64 0, .string ⟨#[]⟩, .bool false, .int .u64 0, .int .u64 0, .int .u16 0, .int .u16 0, .string ⟨#[]⟩, .string ⟨#[]⟩, .string ⟨#[]⟩])) 30) fun g3 u8 M => ?_
     replace M : Mem ⟨w, []⟩ [⟨g1, .cells (av 17 (ls [.int .u8 m.ty, .string m.fr, .string m.tq, .int .u32 m.ix, .int .u32 m.pe, .int .u64 m.ct, .int .u64 m.ba, .int .u64 m.ve, .string m.tx, .bool (m.ev), .int .u64 m.eh, .int .u64 m.el, .int .u16 m.ep, .int .u16 m.co, .string m.tt, .string m.da, .string m.sg])) 30⟩, ⟨g2, .cells (av 17 (ls [.int .u8 m.ty, .string m.fr, .string m.tq, .int .u32 m.ix, .int .u32 m.pe, .int .u64 m.ct, .int .u64 m.ba, .int .u64 m.ve, .string m.tx, .bool (m.ev), .int .u64 m.eh, .int .u64 m.el, .int .u16 m.ep, .int .u16 m.co, .string m.tt, .string m.da, .string m.sg])) 30⟩, ⟨g3, .cells (av 17 (ls [.int .u8 0, .string ⟨#[]⟩, .string ⟨#[]⟩, .int .u32 0, .int .u32 0, .int .u64 0, .int .u64 0, .int .u64 0, .string ⟨#[]⟩, .bool false, .int .u64 0, .int .u64 0, .int .u16 0, .int .u16 0, .string ⟨#[]⟩, .string ⟨#[]⟩, .string ⟨#[]⟩])) 30⟩] u8 := M
     refine pl_put M (want_no rfl) rfl 30 _ _ rfl 2 g3 0 (by kernel_rfl) 17 30 (ls [.int .u8 0, .string ⟨#[]⟩, .string ⟨#[]⟩, .int .u32 0, .int .u32 0, .int .u64 0, .int .u64 0, .int .u64 0, .string ⟨#[]⟩, .bool false, .int .u64 0, .int .u64 0, .int .u16 0, .int .u16 0, .string ⟨#[]⟩, .string ⟨#[]⟩, .string ⟨#[]⟩]) rfl 17 (ls [.int .u8 (deM s).ty, .string (deM s).fr, .string (deM s).tq, .int .u32 (deM s).ix, .int .u32 (deM s).pe, .int .u64 (deM s).ct, .int .u64 (deM s).ba, .int .u64 (deM s).ve, .string (deM s).tx, .bool ((deM s).ev), .int .u64 (deM s).eh, .int .u64 (deM s).el, .int .u16 (deM s).ep, .int .u16 (deM s).co, .string (deM s).tt, .string (deM s).da, .string (deM s).sg]) (ls [.int .u8 (deM s).ty, .string (deM s).fr, .string (deM s).tq, .int .u32 (deM s).ix, .int .u32 (deM s).pe, .int .u64 (deM s).ct, .int .u64 (deM s).ba, .int .u64 (deM s).ve, .string (deM s).tx, .bool ((deM s).ev), .int .u64 (deM s).eh, .int .u64 (deM s).el, .int .u16 (deM s).ep, .int .u16 (deM s).co, .string (deM s).tt, .string (deM s).da, .string (deM s).sg]) (by kernel_rfl) inz30 (by decide) (one_ls _ rfl) (fun j hj => by rw [if_pos (by omega), Nat.sub_zero]) fun u9 M => ?_
     replace M : Mem ⟨w, []⟩ [⟨g1, .cells (av 17 (ls [.int .u8 m.ty, .string m.fr, .string m.tq, .int .u32 m.ix, .int .u32 m.pe, .int .u64 m.ct, .int .u64 m.ba, .int .u64 m.ve, .string m.tx, .bool (m.ev), .int .u64 m.eh, .int .u64 m.el, .int .u16 m.ep, .int .u16 m.co, .string m.tt, .string m.da, .string m.sg])) 30⟩, ⟨g2, .cells (av 17 (ls [.int .u8 m.ty, .string m.fr, .string m.tq, .int .u32 m.ix, .int .u32 m.pe, .int .u64 m.ct, .int .u64 m.ba, .int .u64 m.ve, .string m.tx, .bool (m.ev), .int .u64 m.eh, .int .u64 m.el, .int .u16 m.ep, .int .u16 m.co, .string m.tt, .string m.da, .string m.sg])) 30⟩, ⟨g3, .cells (av 17 (ls [.int .u8 (deM s).ty, .string (deM s).fr, .string (deM s).tq, .int .u32 (deM s).ix, .int .u32 (deM s).pe, .int .u64 (deM s).ct, .int .u64 (deM s).ba, .int .u64 (deM s).ve, .string (deM s).tx, .bool ((deM s).ev), .int .u64 (deM s).eh, .int .u64 (deM s).el, .int .u16 (deM s).ep, .int .u16 (deM s).co, .string (deM s).tt, .string (deM s).da, .string (deM s).sg])) 30⟩] u9 := M
     refine pV 10 (.int .i64 0) ?_
     refine nT ?_
     refine wp_seq ?_
     refine sR ?_
     refine pV 45 (.int .i64 0) ?_
     refine pV 46 (.bool false) ?_
     refine nT ?_
     refine wp_cond_false (by kernel_rfl) ?_
     refine wp_skip ?_
     refine au_then ?_
     refine sR ?_
     refine pAz M 54 2 17 (ls [.int .u8 (deM s).ty, .string (deM s).fr, .string (deM s).tq, .int .u32 (deM s).ix, .int .u32 (deM s).pe, .int .u64 (deM s).ct, .int .u64 (deM s).ba, .int .u64 (deM s).ve, .string (deM s).tx, .bool ((deM s).ev), .int .u64 (deM s).eh, .int .u64 (deM s).el, .int .u16 (deM s).ep, .int .u16 (deM s).co, .string (deM s).tt, .string (deM s).da, .string (deM s).sg]) ?_
     refine pC M 55 10 #[.agg (av 17 (ls [.int .u8 (deM s).ty, .string (deM s).fr, .string (deM s).tq, .int .u32 (deM s).ix, .int .u32 (deM s).pe, .int .u64 (deM s).ct, .int .u64 (deM s).ba, .int .u64 (deM s).ve, .string (deM s).tx, .bool ((deM s).ev), .int .u64 (deM s).eh, .int .u64 (deM s).el, .int .u16 (deM s).ep, .int .u16 (deM s).co, .string (deM s).tt, .string (deM s).da, .string (deM s).sg]))] (.tuple #[.string s, .int .i64 0]) (fun w M => call_val (c_Encode (deM s) (back_s c3).1.ty (back_s c3).2.2.2 w M.laid) (by rw [(back_s c3).2.1, (back_s c3).2.2.1])) fun u10 M => ?_
     refine pV 53 (.tuple #[.string s, .int .i64 0]) ?_
     refine pV 56 (.string s) ?_
     refine pV 57 (.int .i64 0) ?_
     refine pV 11 (.string s) ?_
     refine pV 12 (.int .i64 0) ?_
     refine nT ?_
     refine sR ?_
     refine pV 58 (.int .i64 0) ?_
     refine pV 59 (.bool true) ?_
     refine pV 60 (.bool true) ?_
     refine pl_val (want_on 2 true rfl 60 rfl (by kernel_rfl)) (some 61) rfl (.string s) (fun _ => by kernel_rfl) ?_
     refine pl_val (want_on 2 true rfl 60 rfl (by kernel_rfl)) (some 62) rfl (.string s) (fun _ => by kernel_rfl) ?_
     refine pl_val (want_on 2 true rfl 60 rfl (by kernel_rfl)) (some 63) rfl (.bool true) (fun w => Eq.trans (b := .ok (.value (.bool (s.toList == s.toList))) w) (by kernel_rfl) (by rw [beq_self_eq_true])) ?_
     refine pV 64 (.bool true) ?_
     refine pV 65 (.bool true) ?_
     refine pl_load M (want_on 7 true rfl 65 rfl (by kernel_rfl)) (some 66) rfl 30 _ rfl 2 g3 0 (by kernel_rfl) 17 30 (ls [.int .u8 (deM s).ty, .string (deM s).fr, .string (deM s).tq, .int .u32 (deM s).ix, .int .u32 (deM s).pe, .int .u64 (deM s).ct, .int .u64 (deM s).ba, .int .u64 (deM s).ve, .string (deM s).tx, .bool ((deM s).ev), .int .u64 (deM s).eh, .int .u64 (deM s).el, .int .u16 (deM s).ep, .int .u16 (deM s).co, .string (deM s).tt, .string (deM s).da, .string (deM s).sg]) rfl 17 (ls [.int .u8 (deM s).ty, .string (deM s).fr, .string (deM s).tq, .int .u32 (deM s).ix, .int .u32 (deM s).pe, .int .u64 (deM s).ct, .int .u64 (deM s).ba, .int .u64 (deM s).ve, .string (deM s).tx, .bool ((deM s).ev), .int .u64 (deM s).eh, .int .u64 (deM s).el, .int .u16 (deM s).ep, .int .u16 (deM s).co, .string (deM s).tt, .string (deM s).da, .string (deM s).sg]) (fun j _ => by rw [Nat.zero_add]) (by decide) _ Try.underlying30 rfl inz30 ?_
     refine pl_call M (want_on 7 true rfl 65 rfl (by kernel_rfl)) (some 67) rfl 14 #[.agg (av 17 (ls [.int .u8 (deM s).ty, .string (deM s).fr, .string (deM s).tq, .int .u32 (deM s).ix, .int .u32 (deM s).pe, .int .u64 (deM s).ct, .int .u64 (deM s).ba, .int .u64 (deM s).ve, .string (deM s).tx, .bool ((deM s).ev), .int .u64 (deM s).eh, .int .u64 (deM s).el, .int .u16 (deM s).ep, .int .u16 (deM s).co, .string (deM s).tt, .string (deM s).da, .string (deM s).sg]))] (.int .i64 0) (fun _ => by kernel_rfl) (fun w M => call_val (c_MMay (deM s) w M.laid) (by rw [(back_s c3).2.1])) fun u11 M => ?_
     refine pl_val (want_on 7 true rfl 65 rfl (by kernel_rfl)) (some 68) rfl (.bool true) (fun _ => by kernel_rfl) ?_
     refine pV 69 (.bool true) ?_
     refine pV 70 (.bool true) ?_
     refine pl_call M (want_on 12 true rfl 70 rfl (by kernel_rfl)) (some 71) rfl 9 #[] (.bool true) (fun _ => by kernel_rfl) (fun w M => c_works w M.laid) fun u12 M => ?_
     refine pV 72 (.bool true) ?_
     refine pV 4 (.bool true) ?_
     refine nT ?_
     refine wp_ret ?_
     exact bodyPost_ret (v := .bool true) (results_tmp1 Try.results5 _ _ _ (by kernel_rfl)) (by kernel_rfl) ⟨rfl, below_grown M.old⟩
    ·skip
     refine pC M 42 18 #[.string s] (.tuple #[.agg (av 17 (ls [.int .u8 0, .string ⟨#[]⟩, .string ⟨#[]⟩, .int .u32 0, .int .u32 0, .int .u64 0, .int .u64 0, .int .u64 0, .string ⟨#[]⟩, .bool false, .int .u64 0, .int .u64 0, .int .u16 0, .int .u16 0, .string ⟨#[]⟩, .string ⟨#[]⟩, .string ⟨#[]⟩])), .int .i64 (deE s)]) (fun w M => call_val (c_Decode s w M.laid) (by rw [deM, if_neg c3]; rfl)) fun u7 M => ?_
     refine pV 40 (.tuple #[.agg (av 17 (ls [.int .u8 0, .string ⟨#[]⟩, .string ⟨#[]⟩, .int .u32 0, .int .u32 0, .int .u64 0, .int .u64 0, .int .u64 0, .string ⟨#[]⟩, .bool false, .int .u64 0, .int .u64 0, .int .u16 0, .int .u16 0, .string ⟨#[]⟩, .string ⟨#[]⟩, .string ⟨#[]⟩])), .int .i64 (deE s)]) ?_
     refine pV 43 (.agg (av 17 (ls [.int .u8 0, .string ⟨#[]⟩, .string ⟨#[]⟩, .int .u32 0, .int .u32 0, .int .u64 0, .int .u64 0, .int .u64 0, .string ⟨#[]⟩, .bool false, .int .u64 0, .int .u64 0, .int .u16 0, .int .u16 0, .string ⟨#[]⟩, .string ⟨#[]⟩, .string ⟨#[]⟩]))) ?_
     refine pV 44 (.int .i64 (deE s)) ?_
     refine pN M 9 (.cells (av 17 (ls [.int .u8 0, .string ⟨#[]⟩, .string ⟨#[]⟩, .int .u32 0, .int .u32 0, .int .u64 0, .int .u64 0, .int .u64 0, .string ⟨#[]⟩, .bool false, .int .u64 0, .int .u64 0, .int .u16 0, .int .u16 0, .string ⟨#[]⟩, .string ⟨#[]⟩, .string ⟨#[]⟩])) 30) fun g3 u8 M => ?_
     replace M : Mem ⟨w, []⟩ [⟨g1, .cells (av 17 (ls [.int .u8 m.ty, .string m.fr, .string m.tq, .int .u32 m.ix, .int .u32 m.pe, .int .u64 m.ct, .int .u64 m.ba, .int .u64 m.ve, .string m.tx, .bool (m.ev), .int .u64 m.eh, .int .u64 m.el, .int .u16 m.ep, .int .u16 m.co, .string m.tt, .string m.da, .string m.sg])) 30⟩, ⟨g2, .cells (av 17 (ls [.int .u8 m.ty, .string m.fr, .string m.tq, .int .u32 m.ix, .int .u32 m.pe, .int .u64 m.ct, .int .u64 m.ba, .int .u64 m.ve, .string m.tx, .bool (m.ev), .int .u64 m.eh, .int .u64 m.el, .int .u16 m.ep, .int .u16 m.co, .string m.tt, .string m.da, .string m.sg])) 30⟩, ⟨g3, .cells (av 17 (ls [.int .u8 0, .string ⟨#[]⟩, .string ⟨#[]⟩, .int .u32 0, .int .u32 0, .int .u64 0, .int .u64 0, .int .u64 0, .string ⟨#[]⟩, .bool false, .int .u64 0, .int .u64 0, .int .u16 0, .int .u16 0, .string ⟨#[]⟩, .string ⟨#[]⟩, .string ⟨#[]⟩])) 30⟩] u8 := M
     refine pl_put M (want_no rfl) rfl 30 _ _ rfl 2 g3 0 (by kernel_rfl) 17 30 (ls [.int .u8 0, .string ⟨#[]⟩, .string ⟨#[]⟩, .int .u32 0, .int .u32 0, .int .u64 0, .int .u64 0, .int .u64 0, .string ⟨#[]⟩, .bool false, .int .u64 0, .int .u64 0, .int .u16 0, .int .u16 0, .string ⟨#[]⟩, .string ⟨#[]⟩, .string ⟨#[]⟩]) rfl 17 (ls [.int .u8 0, .string ⟨#[]⟩, .string ⟨#[]⟩, .int .u32 0, .int .u32 0, .int .u64 0, .int .u64 0, .int .u64 0, .string ⟨#[]⟩, .bool false, .int .u64 0, .int .u64 0, .int .u16 0, .int .u16 0, .string ⟨#[]⟩, .string ⟨#[]⟩, .string ⟨#[]⟩]) (ls [.int .u8 0, .string ⟨#[]⟩, .string ⟨#[]⟩, .int .u32 0, .int .u32 0, .int .u64 0, .int .u64 0, .int .u64 0, .string ⟨#[]⟩, .bool false, .int .u64 0, .int .u64 0, .int .u16 0, .int .u16 0, .string ⟨#[]⟩, .string ⟨#[]⟩, .string ⟨#[]⟩]) (by kernel_rfl) inz30 (by decide) (one_ls _ rfl) (fun j hj => by rw [if_pos (by omega), Nat.sub_zero]) fun u9 M => ?_
     replace M : Mem ⟨w, []⟩ [⟨g1, .cells (av 17 (ls [.int .u8 m.ty, .string m.fr, .string m.tq, .int .u32 m.ix, .int .u32 m.pe, .int .u64 m.ct, .int .u64 m.ba, .int .u64 m.ve, .string m.tx, .bool (m.ev), .int .u64 m.eh, .int .u64 m.el, .int .u16 m.ep, .int .u16 m.co, .string m.tt, .string m.da, .string m.sg])) 30⟩, ⟨g2, .cells (av 17 (ls [.int .u8 m.ty, .string m.fr, .string m.tq, .int .u32 m.ix, .int .u32 m.pe, .int .u64 m.ct, .int .u64 m.ba, .int .u64 m.ve, .string m.tx, .bool (m.ev), .int .u64 m.eh, .int .u64 m.el, .int .u16 m.ep, .int .u16 m.co, .string m.tt, .string m.da, .string m.sg])) 30⟩, ⟨g3, .cells (av 17 (ls [.int .u8 0, .string ⟨#[]⟩, .string ⟨#[]⟩, .int .u32 0, .int .u32 0, .int .u64 0, .int .u64 0, .int .u64 0, .string ⟨#[]⟩, .bool false, .int .u64 0, .int .u64 0, .int .u16 0, .int .u16 0, .string ⟨#[]⟩, .string ⟨#[]⟩, .string ⟨#[]⟩])) 30⟩] u9 := M
     refine pV 10 (.int .i64 (deE s)) ?_
     refine nT ?_
     refine wp_seq ?_
     refine sR ?_
     refine pV 45 (.int .i64 (deE s)) ?_
     refine pH 46 (.bool true) (nU ((deE s) = 0) (c3)) ?_
     refine nT ?_
     refine wp_cond_true (by kernel_rfl) ?_
     refine sR ?_
     refine pAz M 47 2 17 (ls [.int .u8 0, .string ⟨#[]⟩, .string ⟨#[]⟩, .int .u32 0, .int .u32 0, .int .u64 0, .int .u64 0, .int .u64 0, .string ⟨#[]⟩, .bool false, .int .u64 0, .int .u64 0, .int .u16 0, .int .u16 0, .string ⟨#[]⟩, .string ⟨#[]⟩, .string ⟨#[]⟩]) ?_
     refine pV 48 (.agg (av 17 (ls [.int .u8 0, .string ⟨#[]⟩, .string ⟨#[]⟩, .int .u32 0, .int .u32 0, .int .u64 0, .int .u64 0, .int .u64 0, .string ⟨#[]⟩, .bool false, .int .u64 0, .int .u64 0, .int .u16 0, .int .u16 0, .string ⟨#[]⟩, .string ⟨#[]⟩, .string ⟨#[]⟩]))) ?_
     refine pH 49 (.bool true) (fun w => (eql30 (0 : Int) (0 : Int) (⟨#[]⟩ : ByteArray) (⟨#[]⟩ : ByteArray) (⟨#[]⟩ : ByteArray) (⟨#[]⟩ : ByteArray) (0 : Int) (0 : Int) (0 : Int) (0 : Int) (0 : Int) (0 : Int) (0 : Int) (0 : Int) (0 : Int) (0 : Int) (⟨#[]⟩ : ByteArray) (⟨#[]⟩ : ByteArray) false false (0 : Int) (0 : Int) (0 : Int) (0 : Int) (0 : Int) (0 : Int) (0 : Int) (0 : Int) (⟨#[]⟩ : ByteArray) (⟨#[]⟩ : ByteArray) (⟨#[]⟩ : ByteArray) (⟨#[]⟩ : ByteArray) (⟨#[]⟩ : ByteArray) (⟨#[]⟩ : ByteArray) _ _ rfl (by kernel_rfl) (by kernel_rfl) w).trans (by rw [decide_eq_true (⟨rfl, rfl, rfl, rfl, rfl, rfl, rfl, rfl, rfl, rfl, rfl, rfl, rfl, rfl, rfl, rfl, rfl⟩ : (0 : Int) = (0 : Int) ∧ (⟨#[]⟩ : ByteArray) = (⟨#[]⟩ : ByteArray) ∧ (⟨#[]⟩ : ByteArray) = (⟨#[]⟩ : ByteArray) ∧ (0 : Int) = (0 : Int) ∧ (0 : Int) = (0 : Int) ∧ (0 : Int) = (0 : Int) ∧ (0 : Int) = (0 : Int) ∧ (0 : Int) = (0 : Int) ∧ (⟨#[]⟩ : ByteArray) = (⟨#[]⟩ : ByteArray) ∧ false = false ∧ (0 : Int) = (0 : Int) ∧ (0 : Int) = (0 : Int) ∧ (0 : Int) = (0 : Int) ∧ (0 : Int) = (0 : Int) ∧ (⟨#[]⟩ : ByteArray) = (⟨#[]⟩ : ByteArray) ∧ (⟨#[]⟩ : ByteArray) = (⟨#[]⟩ : ByteArray) ∧ (⟨#[]⟩ : ByteArray) = (⟨#[]⟩ : ByteArray))])) ?_
     refine pV 50 (.bool true) ?_
     refine pl_call M (want_on 3 true rfl 50 rfl (by kernel_rfl)) (some 51) rfl 9 #[] (.bool true) (fun _ => by kernel_rfl) (fun w M => c_works w M.laid) fun u10 M => ?_
     refine pV 52 (.bool true) ?_
     refine pV 4 (.bool true) ?_
     refine nT ?_
     refine wp_ret ?_
     refine au_then_ret ?_
     exact bodyPost_ret (v := .bool true) (results_tmp1 Try.results5 _ _ _ (by kernel_rfl)) (by kernel_rfl) ⟨rfl, below_grown M.old⟩
   ·skip
    refine pH 27 (.bool false) (dF ((mE m) = 0) (c2)) ?_
    refine nT ?_
    refine wp_cond_false (by kernel_rfl) ?_
    refine wp_skip ?_
    refine au_then ?_
    refine sR ?_
    refine pV 41 (.string s) ?_
    by_cases c3 : (deE s) = 0
    ·skip
     refine pC M 42 18 #[.string s] (.tuple #[.agg (av 17 (ls [.int .u8 (deM s).ty, .string (deM s).fr, .string (deM s).tq, .int .u32 (deM s).ix, .int .u32 (deM s).pe, .int .u64 (deM s).ct, .int .u64 (deM s).ba, .int .u64 (deM s).ve, .string (deM s).tx, .bool ((deM s).ev), .int .u64 (deM s).eh, .int .u64 (deM s).el, .int .u16 (deM s).ep, .int .u16 (deM s).co, .string (deM s).tt, .string (deM s).da, .string (deM s).sg])), .int .i64 0]) (fun w M => call_val (c_Decode s w M.laid) (by rw [c3])) fun u4 M => ?_
     refine pV 40 (.tuple #[.agg (av 17 (ls [.int .u8 (deM s).ty, .string (deM s).fr, .string (deM s).tq, .int .u32 (deM s).ix, .int .u32 (deM s).pe, .int .u64 (deM s).ct, .int .u64 (deM s).ba, .int .u64 (deM s).ve, .string (deM s).tx, .bool ((deM s).ev), .int .u64 (deM s).eh, .int .u64 (deM s).el, .int .u16 (deM s).ep, .int .u16 (deM s).co, .string (deM s).tt, .string (deM s).da, .string (deM s).sg])), .int .i64 0]) ?_
     refine pV 43 (.agg (av 17 (ls [.int .u8 (deM s).ty, .string (deM s).fr, .string (deM s).tq, .int .u32 (deM s).ix, .int .u32 (deM s).pe, .int .u64 (deM s).ct, .int .u64 (deM s).ba, .int .u64 (deM s).ve, .string (deM s).tx, .bool ((deM s).ev), .int .u64 (deM s).eh, .int .u64 (deM s).el, .int .u16 (deM s).ep, .int .u16 (deM s).co, .string (deM s).tt, .string (deM s).da, .string (deM s).sg]))) ?_
     refine pV 44 (.int .i64 0) ?_
     refine pN M 9 (.cells (av 17 (ls [.int .u8 0, .string ⟨#[]⟩, .string ⟨#[]⟩, .int .u32 0, .int .u32 0, .int .u64 0, .int .u64 0, .int .u64 0, .string ⟨#[]⟩, .bool false, .int .u64 0, .int .u64 0, .int .u16 0, .int .u16 0, .string ⟨#[]⟩, .string ⟨#[]⟩, .string ⟨#[]⟩])) 30) fun g2 u5 M => ?_
     replace M : Mem ⟨w, []⟩ [⟨g1, .cells (av 17 (ls [.int .u8 m.ty, .string m.fr, .string m.tq, .int .u32 m.ix, .int .u32 m.pe, .int .u64 m.ct, .int .u64 m.ba, .int .u64 m.ve, .string m.tx, .bool (m.ev), .int .u64 m.eh, .int .u64 m.el, .int .u16 m.ep, .int .u16 m.co, .string m.tt, .string m.da, .string m.sg])) 30⟩, ⟨g2, .cells (av 17 (ls [.int .u8 0, .string ⟨#[]⟩, .string ⟨#[]⟩, .int .u32 0, .int .u32 0, .int .u64 0, .int .u64 0, .int .u64 0, .string ⟨#[]⟩, .bool false, .int .u64 0, .int .u64 0, .int .u16 0, .int .u16 0, .string ⟨#[]⟩, .string ⟨#[]⟩, .string ⟨#[]⟩])) 30⟩] u5 := M
     refine pl_put M (want_no rfl) rfl 30 _ _ rfl 1 g2 0 (by kernel_rfl) 17 30 (ls [.int .u8 0, .string ⟨#[]⟩, .string ⟨#[]⟩, .int .u32 0, .int .u32 0, .int .u64 0, .int .u64 0, .int .u64 0, .string ⟨#[]⟩, .bool false, .int .u64 0, .int .u64 0, .int .u16 0, .int .u16 0, .string ⟨#[]⟩, .string ⟨#[]⟩, .string ⟨#[]⟩]) rfl 17 (ls [.int .u8 (deM s).ty, .string (deM s).fr, .string (deM s).tq, .int .u32 (deM s).ix, .int .u32 (deM s).pe, .int .u64 (deM s).ct, .int .u64 (deM s).ba, .int .u64 (deM s).ve, .string (deM s).tx, .bool ((deM s).ev), .int .u64 (deM s).eh, .int .u64 (deM s).el, .int .u16 (deM s).ep, .int .u16 (deM s).co, .string (deM s).tt, .string (deM s).da, .string (deM s).sg]) (ls [.int .u8 (deM s).ty, .string (deM s).fr, .string (deM s).tq, .int .u32 (deM s).ix, .int .u32 (deM s).pe, .int .u64 (deM s).ct, .int .u64 (deM s).ba, .int .u64 (deM s).ve, .string (deM s).tx, .bool ((deM s).ev), .int .u64 (deM s).eh, .int .u64 (deM s).el, .int .u16 (deM s).ep, .int .u16 (deM s).co, .string (deM s).tt, .string (deM s).da, .string (deM s).sg]) (by kernel_rfl) inz30 (by decide) (one_ls _ rfl) (fun j hj => by rw [if_pos (by omega), Nat.sub_zero]) fun u6 M => ?_
     replace M : Mem ⟨w, []⟩ [⟨g1, .cells (av 17 (ls [.int .u8 m.ty, .string m.fr, .string m.tq, .int .u32 m.ix, .int .u32 m.pe, .int .u64 m.ct, .int .u64 m.ba, .int .u64 m.ve, .string m.tx, .bool (m.ev), .int .u64 m.eh, .int .u64 m.el, .int .u16 m.ep, .int .u16 m.co, .string m.tt, .string m.da, .string m.sg])) 30⟩, ⟨g2, .cells (av 17 (ls [.int .u8 (deM s).ty, .string (deM s).fr, .string (deM s).tq, .int .u32 (deM s).ix, .int .u32 (deM s).pe, .int .u64 (deM s).ct, .int .u64 (deM s).ba, .int .u64 (deM s).ve, .string (deM s).tx, .bool ((deM s).ev), .int .u64 (deM s).eh, .int .u64 (deM s).el, .int .u16 (deM s).ep, .int .u16 (deM s).co, .string (deM s).tt, .string (deM s).da, .string (deM s).sg])) 30⟩] u6 := M
     refine pV 10 (.int .i64 0) ?_
     refine nT ?_
     refine wp_seq ?_
     refine sR ?_
     refine pV 45 (.int .i64 0) ?_
     refine pV 46 (.bool false) ?_
     refine nT ?_
     refine wp_cond_false (by kernel_rfl) ?_
     refine wp_skip ?_
     refine au_then ?_
     refine sR ?_
     refine pAz M 54 1 17 (ls [.int .u8 (deM s).ty, .string (deM s).fr, .string (deM s).tq, .int .u32 (deM s).ix, .int .u32 (deM s).pe, .int .u64 (deM s).ct, .int .u64 (deM s).ba, .int .u64 (deM s).ve, .string (deM s).tx, .bool ((deM s).ev), .int .u64 (deM s).eh, .int .u64 (deM s).el, .int .u16 (deM s).ep, .int .u16 (deM s).co, .string (deM s).tt, .string (deM s).da, .string (deM s).sg]) ?_
     refine pC M 55 10 #[.agg (av 17 (ls [.int .u8 (deM s).ty, .string (deM s).fr, .string (deM s).tq, .int .u32 (deM s).ix, .int .u32 (deM s).pe, .int .u64 (deM s).ct, .int .u64 (deM s).ba, .int .u64 (deM s).ve, .string (deM s).tx, .bool ((deM s).ev), .int .u64 (deM s).eh, .int .u64 (deM s).el, .int .u16 (deM s).ep, .int .u16 (deM s).co, .string (deM s).tt, .string (deM s).da, .string (deM s).sg]))] (.tuple #[.string s, .int .i64 0]) (fun w M => call_val (c_Encode (deM s) (back_s c3).1.ty (back_s c3).2.2.2 w M.laid) (by rw [(back_s c3).2.1, (back_s c3).2.2.1])) fun u7 M => ?_
     refine pV 53 (.tuple #[.string s, .int .i64 0]) ?_
     refine pV 56 (.string s) ?_
     refine pV 57 (.int .i64 0) ?_
     refine pV 11 (.string s) ?_
     refine pV 12 (.int .i64 0) ?_
     refine nT ?_
     refine sR ?_
     refine pV 58 (.int .i64 0) ?_
     refine pV 59 (.bool true) ?_
     refine pV 60 (.bool true) ?_
     refine pl_val (want_on 2 true rfl 60 rfl (by kernel_rfl)) (some 61) rfl (.string s) (fun _ => by kernel_rfl) ?_
     refine pl_val (want_on 2 true rfl 60 rfl (by kernel_rfl)) (some 62) rfl (.string s) (fun _ => by kernel_rfl) ?_
     refine pl_val (want_on 2 true rfl 60 rfl (by kernel_rfl)) (some 63) rfl (.bool true) (fun w => Eq.trans (b := .ok (.value (.bool (s.toList == s.toList))) w) (by kernel_rfl) (by rw [beq_self_eq_true])) ?_
     refine pV 64 (.bool true) ?_
     refine pV 65 (.bool true) ?_
     refine pl_load M (want_on 7 true rfl 65 rfl (by kernel_rfl)) (some 66) rfl 30 _ rfl 1 g2 0 (by kernel_rfl) 17 30 (ls [.int .u8 (deM s).ty, .string (deM s).fr, .string (deM s).tq, .int .u32 (deM s).ix, .int .u32 (deM s).pe, .int .u64 (deM s).ct, .int .u64 (deM s).ba, .int .u64 (deM s).ve, .string (deM s).tx, .bool ((deM s).ev), .int .u64 (deM s).eh, .int .u64 (deM s).el, .int .u16 (deM s).ep, .int .u16 (deM s).co, .string (deM s).tt, .string (deM s).da, .string (deM s).sg]) rfl 17 (ls [.int .u8 (deM s).ty, .string (deM s).fr, .string (deM s).tq, .int .u32 (deM s).ix, .int .u32 (deM s).pe, .int .u64 (deM s).ct, .int .u64 (deM s).ba, .int .u64 (deM s).ve, .string (deM s).tx, .bool ((deM s).ev), .int .u64 (deM s).eh, .int .u64 (deM s).el, .int .u16 (deM s).ep, .int .u16 (deM s).co, .string (deM s).tt, .string (deM s).da, .string (deM s).sg]) (fun j _ => by rw [Nat.zero_add]) (by decide) _ Try.underlying30 rfl inz30 ?_
     refine pl_call M (want_on 7 true rfl 65 rfl (by kernel_rfl)) (some 67) rfl 14 #[.agg (av 17 (ls [.int .u8 (deM s).ty, .string (deM s).fr, .string (deM s).tq, .int .u32 (deM s).ix, .int .u32 (deM s).pe, .int .u64 (deM s).ct, .int .u64 (deM s).ba, .int .u64 (deM s).ve, .string (deM s).tx, .bool ((deM s).ev), .int .u64 (deM s).eh, .int .u64 (deM s).el, .int .u16 (deM s).ep, .int .u16 (deM s).co, .string (deM s).tt, .string (deM s).da, .string (deM s).sg]))] (.int .i64 0) (fun _ => by kernel_rfl) (fun w M => call_val (c_MMay (deM s) w M.laid) (by rw [(back_s c3).2.1])) fun u8 M => ?_
     refine pl_val (want_on 7 true rfl 65 rfl (by kernel_rfl)) (some 68) rfl (.bool true) (fun _ => by kernel_rfl) ?_
     refine pV 69 (.bool true) ?_
     refine pV 70 (.bool true) ?_
     refine pl_call M (want_on 12 true rfl 70 rfl (by kernel_rfl)) (some 71) rfl 9 #[] (.bool true) (fun _ => by kernel_rfl) (fun w M => c_works w M.laid) fun u9 M => ?_
     refine pV 72 (.bool true) ?_
     refine pV 4 (.bool true) ?_
     refine nT ?_
     refine wp_ret ?_
     exact bodyPost_ret (v := .bool true) (results_tmp1 Try.results5 _ _ _ (by kernel_rfl)) (by kernel_rfl) ⟨rfl, below_grown M.old⟩
    ·skip
     refine pC M 42 18 #[.string s] (.tuple #[.agg (av 17 (ls [.int .u8 0, .string ⟨#[]⟩, .string ⟨#[]⟩, .int .u32 0, .int .u32 0, .int .u64 0, .int .u64 0, .int .u64 0, .string ⟨#[]⟩, .bool false, .int .u64 0, .int .u64 0, .int .u16 0, .int .u16 0, .string ⟨#[]⟩, .string ⟨#[]⟩, .string ⟨#[]⟩])), .int .i64 (deE s)]) (fun w M => call_val (c_Decode s w M.laid) (by rw [deM, if_neg c3]; rfl)) fun u4 M => ?_
     refine pV 40 (.tuple #[.agg (av 17 (ls [.int .u8 0, .string ⟨#[]⟩, .string ⟨#[]⟩, .int .u32 0, .int .u32 0, .int .u64 0, .int .u64 0, .int .u64 0, .string ⟨#[]⟩, .bool false, .int .u64 0, .int .u64 0, .int .u16 0, .int .u16 0, .string ⟨#[]⟩, .string ⟨#[]⟩, .string ⟨#[]⟩])), .int .i64 (deE s)]) ?_
     refine pV 43 (.agg (av 17 (ls [.int .u8 0, .string ⟨#[]⟩, .string ⟨#[]⟩, .int .u32 0, .int .u32 0, .int .u64 0, .int .u64 0, .int .u64 0, .string ⟨#[]⟩, .bool false, .int .u64 0, .int .u64 0, .int .u16 0, .int .u16 0, .string ⟨#[]⟩, .string ⟨#[]⟩, .string ⟨#[]⟩]))) ?_
     refine pV 44 (.int .i64 (deE s)) ?_
     refine pN M 9 (.cells (av 17 (ls [.int .u8 0, .string ⟨#[]⟩, .string ⟨#[]⟩, .int .u32 0, .int .u32 0, .int .u64 0, .int .u64 0, .int .u64 0, .string ⟨#[]⟩, .bool false, .int .u64 0, .int .u64 0, .int .u16 0, .int .u16 0, .string ⟨#[]⟩, .string ⟨#[]⟩, .string ⟨#[]⟩])) 30) fun g2 u5 M => ?_
     replace M : Mem ⟨w, []⟩ [⟨g1, .cells (av 17 (ls [.int .u8 m.ty, .string m.fr, .string m.tq, .int .u32 m.ix, .int .u32 m.pe, .int .u64 m.ct, .int .u64 m.ba, .int .u64 m.ve, .string m.tx, .bool (m.ev), .int .u64 m.eh, .int .u64 m.el, .int .u16 m.ep, .int .u16 m.co, .string m.tt, .string m.da, .string m.sg])) 30⟩, ⟨g2, .cells (av 17 (ls [.int .u8 0, .string ⟨#[]⟩, .string ⟨#[]⟩, .int .u32 0, .int .u32 0, .int .u64 0, .int .u64 0, .int .u64 0, .string ⟨#[]⟩, .bool false, .int .u64 0, .int .u64 0, .int .u16 0, .int .u16 0, .string ⟨#[]⟩, .string ⟨#[]⟩, .string ⟨#[]⟩])) 30⟩] u5 := M
     refine pl_put M (want_no rfl) rfl 30 _ _ rfl 1 g2 0 (by kernel_rfl) 17 30 (ls [.int .u8 0, .string ⟨#[]⟩, .string ⟨#[]⟩, .int .u32 0, .int .u32 0, .int .u64 0, .int .u64 0, .int .u64 0, .string ⟨#[]⟩, .bool false, .int .u64 0, .int .u64 0, .int .u16 0, .int .u16 0, .string ⟨#[]⟩, .string ⟨#[]⟩, .string ⟨#[]⟩]) rfl 17 (ls [.int .u8 0, .string ⟨#[]⟩, .string ⟨#[]⟩, .int .u32 0, .int .u32 0, .int .u64 0, .int .u64 0, .int .u64 0, .string ⟨#[]⟩, .bool false, .int .u64 0, .int .u64 0, .int .u16 0, .int .u16 0, .string ⟨#[]⟩, .string ⟨#[]⟩, .string ⟨#[]⟩]) (ls [.int .u8 0, .string ⟨#[]⟩, .string ⟨#[]⟩, .int .u32 0, .int .u32 0, .int .u64 0, .int .u64 0, .int .u64 0, .string ⟨#[]⟩, .bool false, .int .u64 0, .int .u64 0, .int .u16 0, .int .u16 0, .string ⟨#[]⟩, .string ⟨#[]⟩, .string ⟨#[]⟩]) (by kernel_rfl) inz30 (by decide) (one_ls _ rfl) (fun j hj => by rw [if_pos (by omega), Nat.sub_zero]) fun u6 M => ?_
     replace M : Mem ⟨w, []⟩ [⟨g1, .cells (av 17 (ls [.int .u8 m.ty, .string m.fr, .string m.tq, .int .u32 m.ix, .int .u32 m.pe, .int .u64 m.ct, .int .u64 m.ba, .int .u64 m.ve, .string m.tx, .bool (m.ev), .int .u64 m.eh, .int .u64 m.el, .int .u16 m.ep, .int .u16 m.co, .string m.tt, .string m.da, .string m.sg])) 30⟩, ⟨g2, .cells (av 17 (ls [.int .u8 0, .string ⟨#[]⟩, .string ⟨#[]⟩, .int .u32 0, .int .u32 0, .int .u64 0, .int .u64 0, .int .u64 0, .string ⟨#[]⟩, .bool false, .int .u64 0, .int .u64 0, .int .u16 0, .int .u16 0, .string ⟨#[]⟩, .string ⟨#[]⟩, .string ⟨#[]⟩])) 30⟩] u6 := M
     refine pV 10 (.int .i64 (deE s)) ?_
     refine nT ?_
     refine wp_seq ?_
     refine sR ?_
     refine pV 45 (.int .i64 (deE s)) ?_
     refine pH 46 (.bool true) (nU ((deE s) = 0) (c3)) ?_
     refine nT ?_
     refine wp_cond_true (by kernel_rfl) ?_
     refine sR ?_
     refine pAz M 47 1 17 (ls [.int .u8 0, .string ⟨#[]⟩, .string ⟨#[]⟩, .int .u32 0, .int .u32 0, .int .u64 0, .int .u64 0, .int .u64 0, .string ⟨#[]⟩, .bool false, .int .u64 0, .int .u64 0, .int .u16 0, .int .u16 0, .string ⟨#[]⟩, .string ⟨#[]⟩, .string ⟨#[]⟩]) ?_
     refine pV 48 (.agg (av 17 (ls [.int .u8 0, .string ⟨#[]⟩, .string ⟨#[]⟩, .int .u32 0, .int .u32 0, .int .u64 0, .int .u64 0, .int .u64 0, .string ⟨#[]⟩, .bool false, .int .u64 0, .int .u64 0, .int .u16 0, .int .u16 0, .string ⟨#[]⟩, .string ⟨#[]⟩, .string ⟨#[]⟩]))) ?_
     refine pH 49 (.bool true) (fun w => (eql30 (0 : Int) (0 : Int) (⟨#[]⟩ : ByteArray) (⟨#[]⟩ : ByteArray) (⟨#[]⟩ : ByteArray) (⟨#[]⟩ : ByteArray) (0 : Int) (0 : Int) (0 : Int) (0 : Int) (0 : Int) (0 : Int) (0 : Int) (0 : Int) (0 : Int) (0 : Int) (⟨#[]⟩ : ByteArray) (⟨#[]⟩ : ByteArray) false false (0 : Int) (0 : Int) (0 : Int) (0 : Int) (0 : Int) (0 : Int) (0 : Int) (0 : Int) (⟨#[]⟩ : ByteArray) (⟨#[]⟩ : ByteArray) (⟨#[]⟩ : ByteArray) (⟨#[]⟩ : ByteArray) (⟨#[]⟩ : ByteArray) (⟨#[]⟩ : ByteArray) _ _ rfl (by kernel_rfl) (by kernel_rfl) w).trans (by rw [decide_eq_true (⟨rfl, rfl, rfl, rfl, rfl, rfl, rfl, rfl, rfl, rfl, rfl, rfl, rfl, rfl, rfl, rfl, rfl⟩ : (0 : Int) = (0 : Int) ∧ (⟨#[]⟩ : ByteArray) = (⟨#[]⟩ : ByteArray) ∧ (⟨#[]⟩ : ByteArray) = (⟨#[]⟩ : ByteArray) ∧ (0 : Int) = (0 : Int) ∧ (0 : Int) = (0 : Int) ∧ (0 : Int) = (0 : Int) ∧ (0 : Int) = (0 : Int) ∧ (0 : Int) = (0 : Int) ∧ (⟨#[]⟩ : ByteArray) = (⟨#[]⟩ : ByteArray) ∧ false = false ∧ (0 : Int) = (0 : Int) ∧ (0 : Int) = (0 : Int) ∧ (0 : Int) = (0 : Int) ∧ (0 : Int) = (0 : Int) ∧ (⟨#[]⟩ : ByteArray) = (⟨#[]⟩ : ByteArray) ∧ (⟨#[]⟩ : ByteArray) = (⟨#[]⟩ : ByteArray) ∧ (⟨#[]⟩ : ByteArray) = (⟨#[]⟩ : ByteArray))])) ?_
     refine pV 50 (.bool true) ?_
     refine pl_call M (want_on 3 true rfl 50 rfl (by kernel_rfl)) (some 51) rfl 9 #[] (.bool true) (fun _ => by kernel_rfl) (fun w M => c_works w M.laid) fun u7 M => ?_
     refine pV 52 (.bool true) ?_
     refine pV 4 (.bool true) ?_
     refine nT ?_
     refine wp_ret ?_
     refine au_then_ret ?_
     exact bodyPost_ret (v := .bool true) (results_tmp1 Try.results5 _ _ _ (by kernel_rfl)) (by kernel_rfl) ⟨rfl, below_grown M.old⟩
end Go.Proofs.Ytbechjlkmajcoaa

namespace Go.Proofs.Ytbechjlkmajcoaa
open Go.ChangeShapes Go.WideShapes Go.ChangeAt Go.RowKit
set_option maxRecDepth 100000 in
theorem laidOut : laidOutB Try.prog = true := by kernel_rfl
set_option maxRecDepth 100000 in
theorem ownNone : ownKnob Try.prog.godebug = none := by kernel_rfl
section
variable {W : World} {b0 : Nat} {v : Value}
set_option maxRecDepth 100000 in
theorem cell_bool (h : Cell.okWide Try.prog W .any b0 4 v) : ∃ b, v = .bool b := by
 simp only [Cell.okWide, Try.underlying4] at h
 cases v <;> simp_all [Cell.ok, Try.underlying4]
set_option maxRecDepth 100000 in
theorem cell_u64 (h : Cell.okWide Try.prog W .any b0 23 v) : ∃ n, v = .int .u64 n ∧ 0 ≤ n ∧ n < 18446744073709551616 := by
 simp only [Cell.okWide, Try.underlying23] at h
 cases v <;> simp_all [Cell.ok, Try.underlying23]
 rename_i k n
 obtain ⟨rfl, h1, h2⟩ := h
 simp [IntKind.min, IntKind.max, IntKind.bits, IntKind.signed] at h1 h2
 exact ⟨h1, by omega⟩
set_option maxRecDepth 100000 in
theorem cell_u8 (h : Cell.okWide Try.prog W .any b0 5 v) : ∃ n, v = .int .u8 n ∧ 0 ≤ n ∧ n < 256 := by
 simp only [Cell.okWide, Try.underlying5] at h
 cases v <;> simp_all [Cell.ok, Try.underlying5]
 rename_i k n
 obtain ⟨rfl, h1, h2⟩ := h
 simp [IntKind.min, IntKind.max, IntKind.bits, IntKind.signed] at h1 h2
 exact ⟨h1, by omega⟩
set_option maxRecDepth 100000 in
theorem cell_str (h : Cell.okWide Try.prog W .any b0 9 v) : ∃ s, v = .string s := by
 simp only [Cell.okWide, Try.underlying9] at h
 cases v <;> simp_all [Cell.ok, Try.underlying9]
set_option maxRecDepth 100000 in
theorem op9 (h : Value.okWide Try.prog W .any b0 9 v) : ∃ s, v = .string s := by
 simp only [Value.okWide, Try.underlying9] at h
 exact cell_str h
set_option maxRecDepth 100000 in
theorem cell_u16 (h : Cell.okWide Try.prog W .any b0 26 v) : ∃ n, v = .int .u16 n ∧ 0 ≤ n ∧ n < 65536 := by
 simp only [Cell.okWide, Try.underlying26] at h
 cases v <;> simp_all [Cell.ok, Try.underlying26]
 rename_i k n
 obtain ⟨rfl, h1, h2⟩ := h
 simp [IntKind.min, IntKind.max, IntKind.bits, IntKind.signed] at h1 h2
 exact ⟨h1, by omega⟩
set_option maxRecDepth 100000 in
theorem cell_u32 (h : Cell.okWide Try.prog W .any b0 22 v) : ∃ n, v = .int .u32 n ∧ 0 ≤ n ∧ n < 4294967296 := by
 simp only [Cell.okWide, Try.underlying22] at h
 cases v <;> simp_all [Cell.ok, Try.underlying22]
 rename_i k n
 obtain ⟨rfl, h1, h2⟩ := h
 simp [IntKind.min, IntKind.max, IntKind.bits, IntKind.signed] at h1 h2
 exact ⟨h1, by omega⟩
set_option maxRecDepth 100000 in
theorem row_av (cs : Array Value) (l : List Value) (hs : cs.size = l.length) (h : ∀ i, i < l.length → cs[i]? = l[i]?) : cs = av l.length (ls l) := by
 apply Array.ext_getElem?
 intro i
 by_cases hi : i < l.length
 ·rw [h i hi, av_get _ _ _ hi]
  unfold ls
  rw [getD_app, List.getElem?_eq_getElem hi]
  rfl
 ·rw [Array.getElem?_eq_none (by omega), Array.getElem?_eq_none (by rw [av_size]; omega)]
end
set_option maxRecDepth 100000 in
theorem row_cells {W : World} {b0 : Nat} {t : TypeId} {v : Value} {fs : Array Field} {ts : List TypeId} (ht : Try.prog.underlying t = some (.struct fs)) (hc : Try.prog.cellTypes Try.prog.depth t = some ts) (hn : Try.prog.cellsOf t = ts.length) (h : Value.okWide Try.prog W .any b0 t v) : ∃ cs, v = .agg cs ∧ cs.size = ts.length ∧ ∀ (i : Nat) (u : TypeId), ts[i]? = some u → ∃ x, cs[i]? = some x ∧ Cell.okWide Try.prog W .any b0 u x := by
 simp only [Value.okWide, ht] at h
 obtain ⟨cs, rfl, h2, ts2, h3, _, h4⟩ := h
 rw [hc] at h3
 cases h3
 refine ⟨cs, rfl, by omega, fun i u hu => ?_⟩
 have hi := (List.getElem?_eq_some_iff.1 hu).1
 obtain ⟨u2, hu2, hx⟩ := h4 i cs[i] (Array.getElem?_eq_getElem (by omega))
 rw [Nat.mod_eq_of_lt hi, hu] at hu2
 cases hu2
 exact ⟨cs[i], Array.getElem?_eq_getElem (by omega), hx⟩
set_option maxRecDepth 100000 in
theorem op30 {W : World} {b0 : Nat} {v : Value} (h : Value.okWide Try.prog W .any b0 30 v) : ∃ m : Mg, v = .agg (av 17 (mgL m)) ∧ okM m := by
 obtain ⟨cs, rfl, hs, hc⟩ := row_cells (ts := [5, 9, 9, 22, 22, 23, 23, 23, 9, 4, 23, 23, 26, 26, 9, 9, 9]) Try.underlying30 (by kernel_rfl) (by kernel_rfl) h
 obtain ⟨x0, e0, o0⟩ := hc 0 5 rfl
 obtain ⟨yty, rfl, rty⟩ := cell_u8 o0
 obtain ⟨x1, e1, o1⟩ := hc 1 9 rfl
 obtain ⟨yfr, rfl⟩ := cell_str o1
 obtain ⟨x2, e2, o2⟩ := hc 2 9 rfl
 obtain ⟨ytq, rfl⟩ := cell_str o2
 obtain ⟨x3, e3, o3⟩ := hc 3 22 rfl
 obtain ⟨yix, rfl, rix⟩ := cell_u32 o3
 obtain ⟨x4, e4, o4⟩ := hc 4 22 rfl
 obtain ⟨ype, rfl, rpe⟩ := cell_u32 o4
 obtain ⟨x5, e5, o5⟩ := hc 5 23 rfl
 obtain ⟨yct, rfl, rct⟩ := cell_u64 o5
 obtain ⟨x6, e6, o6⟩ := hc 6 23 rfl
 obtain ⟨yba, rfl, rba⟩ := cell_u64 o6
 obtain ⟨x7, e7, o7⟩ := hc 7 23 rfl
 obtain ⟨yve, rfl, rve⟩ := cell_u64 o7
 obtain ⟨x8, e8, o8⟩ := hc 8 9 rfl
 obtain ⟨ytx, rfl⟩ := cell_str o8
 obtain ⟨x9, e9, o9⟩ := hc 9 4 rfl
 obtain ⟨yev, rfl⟩ := cell_bool o9
 obtain ⟨x10, e10, o10⟩ := hc 10 23 rfl
 obtain ⟨yeh, rfl, reh⟩ := cell_u64 o10
 obtain ⟨x11, e11, o11⟩ := hc 11 23 rfl
 obtain ⟨yel, rfl, rel⟩ := cell_u64 o11
 obtain ⟨x12, e12, o12⟩ := hc 12 26 rfl
 obtain ⟨yep, rfl, rep⟩ := cell_u16 o12
 obtain ⟨x13, e13, o13⟩ := hc 13 26 rfl
 obtain ⟨yco, rfl, rco⟩ := cell_u16 o13
 obtain ⟨x14, e14, o14⟩ := hc 14 9 rfl
 obtain ⟨ytt, rfl⟩ := cell_str o14
 obtain ⟨x15, e15, o15⟩ := hc 15 9 rfl
 obtain ⟨yda, rfl⟩ := cell_str o15
 obtain ⟨x16, e16, o16⟩ := hc 16 9 rfl
 obtain ⟨ysg, rfl⟩ := cell_str o16
 refine ⟨⟨yty, yfr, ytq, yix, ype, yct, yba, yve, ytx, yev, yeh, yel, yep, yco, ytt, yda, ysg⟩, congrArg Value.agg (row_av cs [.int .u8 yty, .string yfr, .string ytq, .int .u32 yix, .int .u32 ype, .int .u64 yct, .int .u64 yba, .int .u64 yve, .string ytx, .bool yev, .int .u64 yeh, .int .u64 yel, .int .u16 yep, .int .u16 yco, .string ytt, .string yda, .string ysg] hs fun i hi => ?_), ⟨rty, rix, rpe, rct, rba, rve, reh, rel, rep, rco⟩⟩
 rcases i with _ | _ | _ | _ | _ | _ | _ | _ | _ | _ | _ | _ | _ | _ | _ | _ | _ | i
 ·exact e0
 ·exact e1
 ·exact e2
 ·exact e3
 ·exact e4
 ·exact e5
 ·exact e6
 ·exact e7
 ·exact e8
 ·exact e9
 ·exact e10
 ·exact e11
 ·exact e12
 ·exact e13
 ·exact e14
 ·exact e15
 ·exact e16
 ·exact absurd hi (by simp)
set_option maxRecDepth 100000 in
theorem wt_str {H : Type} (P : Program) (t : TypeId) (ts : List TypeId) (s : ByteArray) (r : List (DataW H)) (h : (DataW.weightsEach P (t :: ts) (.lit (.string s.data.toList) :: r)).all (· ≤ reachBytes) = true) : s.size ≤ 140737488351232 ∧ (DataW.weightsEach P ts r).all (· ≤ reachBytes) = true := by
 simp only [DataW.weightsEach, DataW.weights, List.all_append, Bool.and_eq_true, List.all_cons, List.all_nil, reachBytes, Bool.and_true] at h
 refine ⟨?_, h.2⟩
 have h1 := of_decide_eq_true h.1
 have e : s.data.toList.length = s.size := rfl
 omega
set_option maxRecDepth 100000 in
theorem wt_cons {H : Type} (P : Program) (t : TypeId) (ts : List TypeId) (d : DataW H) (r : List (DataW H)) (h : (DataW.weightsEach P (t :: ts) (d :: r)).all (· ≤ reachBytes) = true) : (d.weights P t).all (· ≤ reachBytes) = true ∧ (DataW.weightsEach P ts r).all (· ≤ reachBytes) = true := by
 simp only [DataW.weightsEach, List.all_append, Bool.and_eq_true] at h
 exact h
set_option maxRecDepth 100000 in
theorem wt_at {H : Type} (P : Program) : ∀ (ts : List TypeId) (ds : List (DataW H)) (i : Nat) (t : TypeId) (s : ByteArray), ts[i]? = some t → ds[i]? = some (.lit (.string s.data.toList)) → (DataW.weightsEach P ts ds).all (· ≤ reachBytes) = true → s.size ≤ 140737488351232
 | t :: ts, d :: ds, 0, t', s, _, hd, h => by
  simp only [List.getElem?_cons_zero, Option.some.injEq] at hd
  subst hd
  exact (wt_str P t ts s ds h).1
 | t :: ts, d :: ds, i + 1, t', s, ht, hd, h => by
  simp only [List.getElem?_cons_succ] at ht hd
  exact wt_at P ts ds i t' s ht hd (wt_cons P t ts d ds h).2
 | [], _, _, _, _, ht, _, _ => by simp at ht
 | _ :: _, [], _, _, _, _, hd, _ => by simp at hd
set_option maxRecDepth 100000 in
theorem wt_msg {H : Type} {enc : TypeId × Value → H} {W : World} {b0 : Nat} {sp : Nat → Bool} {hd : Bool} {m : Mg} {d : DataW H} {p : List MemPlace} {ts : List TypeId} {r : List (DataW H)} (h : DataW.Trod enc Try.prog W b0 sp hd 30 (.agg (av 17 (mgL m))) d p) (hw : (DataW.weightsEach Try.prog (30 :: ts) (d :: r)).all (· ≤ reachBytes) = true) : bgM m ∧ (DataW.weightsEach Try.prog ts r).all (· ≤ reachBytes) = true := by
 obtain ⟨h1, h2⟩ := wt_cons _ _ _ _ _ hw
 refine ⟨?_, h2⟩
 obtain ⟨fuel, h⟩ := h
 obtain ⟨xs, n, _, hx, _, hlen, hf⟩ := DataW.trod_struct Try.underlying30 h
 have h14 : xs.length = 14 := hlen
 have hx1 := congrArg Prod.fst hx
 simp only at hx1
 subst hx1
 have hws : (DataW.weightsEach Try.prog [5, 9, 9, 22, 22, 23, 23, 23, 9, 28, 26, 9, 9, 9] (xs.map (·.1))).all (· ≤ reachBytes) = true := by
  unfold DataW.weights at h1
  rw [Try.underlying30] at h1
  exact h1
 have key : ∀ (i : Nat) (s : ByteArray), ([5, 9, 9, 22, 22, 23, 23, 23, 9, 28, 26, 9, 9, 9] : List TypeId)[i]? = some 9 → DataW.trod enc Try.prog W b0 sp hd n 9 [.string s] = xs[i]? → s.size ≤ 140737488351232 := fun i s ht he => by
  cases hxi : xs[i]? with
  | none =>
   rw [hxi] at he
   have hl : i < xs.length := by
    have := (List.getElem?_eq_some_iff.1 ht).1
    simp at this
    omega
   rw [List.getElem?_eq_getElem hl] at hxi
   cases hxi
  | some y =>
   rw [hxi] at he
   obtain ⟨s', e1, e2, _⟩ := DataW.trod_string Try.underlying9 he
   simp only [List.cons.injEq, Value.string.injEq, and_true] at e1
   subst e1
   exact wt_at _ _ _ i 9 s ht (by rw [List.getElem?_map, hxi, e2]; rfl) hws
 exact ⟨key 1 _ rfl (hf 1 _ rfl), key 2 _ rfl (hf 2 _ rfl), key 8 _ rfl (hf 8 _ rfl), key 11 _ rfl (hf 11 _ rfl), key 12 _ rfl (hf 12 _ rfl), key 13 _ rfl (hf 13 _ rfl)⟩
end Go.Proofs.Ytbechjlkmajcoaa
