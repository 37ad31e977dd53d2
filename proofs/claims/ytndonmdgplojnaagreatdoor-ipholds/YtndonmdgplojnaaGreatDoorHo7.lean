/- Part 7 of the walks and facts behind ipHolds_holds. -/
import Derived.Test.YtndonmdgplojnaaGreatDoorHo6
import Derived.HandedShaped
import Derived.Lay
import Derived.OpenShut
import Derived.ProofKit
import Derived.Shelf.Vars
import Derived.Test.YtndonmdgplojnaaGreatDoorRows
import Derived.Test.YtndonmdgplojnaaGreatDoorTie
/- Every address is held by its own bits: the walk of IpHolds. -/
namespace Go.Proofs.YtndonmdgplojnaaGreatDoor
open Go.RowKit

theorem run_rem8 {P : Program} {a : Act} {o : Oper} (t rt : TypeId) (x y : Operand) (ho : o.op = .binOp .rem t x y rt) (m d : Int) (hx : a.eval x = .int .u8 m) (hy : a.eval y = .int .u8 d) (hm : 0 ≤ m) (hd : 0 < d) (w : World) :
    (execOp a.eval o).run P w = .ok (.value (.int .u8 (m % d))) w := by
  have h0 : ¬ d = 0 := by omega
  unfold execOp
  simp [ho, hx, hy, eqGuard, binOp, Op.intDiv, h0, Int.tmod_eq_emod_of_nonneg hm]
/-- A length: what is left when it is divided by one more than there are bits. -/
def md (m : Int) (v : Bool) : Int := m % (wdt v + 1)
theorem md_le (m : Int) (v : Bool) : 0 ≤ md m v ∧ md m v ≤ wdt v := by
  have h := wdt_nn v
  have a := Int.emod_nonneg m (show wdt v + 1 ≠ 0 by omega)
  have b := Int.emod_lt_of_pos m (show 0 < wdt v + 1 by omega)
  unfold md
  omega
theorem txt_mA (v : Bool) (h l : Int) (hne : ¬ txt v h l = (⟨#[]⟩ : ByteArray)) : mA v h l = true := by
  unfold txt at hne
  rcases Bool.eq_false_or_eq_true (mA v h l) with e | e
  · exact e
  · rw [if_neg (by rw [e]; decide)] at hne
    exact absurd rfl hne
theorem lS_no {p x y : Bool} (h : p = true) (e : p = (!x && !y)) : x = false ∧ y = false := by
  subst h
  cases x <;> cases y <;> simp_all
theorem lS_yes {p x y : Bool} (h : p = false) (e : p = (!x && !y)) (hx : x = false) : y = true := by
  subst h hx
  cases y <;> simp_all
set_option maxRecDepth 100000 in
set_option maxHeartbeats 4000000 in
set_option linter.unusedSimpArgs false in
theorem c_holdsE (v : Bool) (h l h' l' m n : Int) (h0 : 0 ≤ h) (h1 : h < 18446744073709551616) (l0 : 0 ≤ l) (l1 : l < 18446744073709551616) (p0 : 0 ≤ h') (p1 : h' < 18446744073709551616) (k0 : 0 ≤ l') (k1 : l' < 18446744073709551616) (m0 : 0 ≤ m) (n0 : 0 ≤ n) (w : World) (hL : Laid w)  :
    Calls Tryz.prog 7 #[.agg (av 3 (ls [.bool (v), .int .u64 h, .int .u64 l])), .agg (av 3 (ls [.bool (v), .int .u64 h', .int .u64 l'])), .int .u8 m, .int .u8 n] w fun r w' => r = .returned (.bool true) ∧ Below w.heap.size w w' := by
  go_enter Tryz.func7, Tryz.ntmps7
  have M := Mem.start hL
  have hw := wdt_nn v
  have hmm := md_le m v
  have hnn := md_le n v
  refine wp_seq ?_
  refine rg_lit ?_
  refine pl_new M (want_no rfl) (some 4) rfl (.cells (av 3 (ls [.bool (v), .int .u64 h, .int .u64 l])) 24) (fun _ => by kernel_rfl) ?_
  intro g1 u1 M
  replace M : Mem ⟨w, []⟩ [⟨g1, .cells (av 3 (ls [.bool (v), .int .u64 h, .int .u64 l])) 24⟩] u1 := M
  refine pl_new M (want_no rfl) (some 5) rfl (.cells (av 3 (ls [.bool (v), .int .u64 h', .int .u64 l'])) 24) (fun _ => by kernel_rfl) ?_
  intro g2 u2 M
  replace M : Mem ⟨w, []⟩ [⟨g1, .cells (av 3 (ls [.bool (v), .int .u64 h, .int .u64 l])) 24⟩, ⟨g2, .cells (av 3 (ls [.bool (v), .int .u64 h', .int .u64 l'])) 24⟩] u2 := M
  refine pl_val (want_no rfl) (some 8) rfl (.bool false) (fun _ => by kernel_rfl) ?_
  refine pl_nil ?_
  refine au_then ?_
  refine wp_seq ?_
  refine wp_seq ?_
  refine rg_lit ?_
  refine pl_val (want_no rfl) (some 13) rfl (.pointer (some ⟨g1, 0, none⟩)) (fun _ => by kernel_rfl) ?_
  rcases Bool.eq_false_or_eq_true (v) with c0 | c0
  · skip
    refine pl_cell M (want_no rfl) (some 14) rfl 4 _ rfl g1 0 (by kernel_rfl) (.bool true) (fun _ => by kernel_rfl) (fun w M => M.cell 0 rfl (by decide) (congrArg Value.bool c0)) ?_
    refine pl_val (want_no rfl) (some 15) rfl (.pointer (some ⟨g2, 0, none⟩)) (fun _ => by kernel_rfl) ?_
    refine pl_cell M (want_no rfl) (some 16) rfl 4 _ rfl g2 0 (by kernel_rfl) (.bool true) (fun _ => by kernel_rfl) (fun w M => M.cell 1 rfl (by decide) (congrArg Value.bool c0)) ?_
    refine pl_val (want_no rfl) (some 17) rfl (.bool false) (fun _ => by kernel_rfl) ?_
    refine pl_val (want_no rfl) (some 18) rfl (.bool false) (fun _ => by kernel_rfl) ?_
    refine pl_load M (want_on 5 false rfl 18 rfl (by kernel_rfl)) (some 19) rfl 24 _ rfl 0 g1 0 (by kernel_rfl) 3 24 (ls [.bool (v), .int .u64 h, .int .u64 l]) rfl 3 (ls [.bool (v), .int .u64 h, .int .u64 l]) (fun j _ => by rw [Nat.zero_add]) (by decide) _ Tryz.underlying24 rfl inz24 ?_
    refine pl_call M (want_on 5 false rfl 18 rfl (by kernel_rfl)) (some 20) rfl 22 #[.agg (av 3 (ls [.bool (v), .int .u64 h, .int .u64 l]))] (.string (txt v h l)) (fun _ => by kernel_rfl) (fun w M => c_Text v h l w M.laid) ?_
    intro u3 M
    by_cases c1 : (txt v h l) = (⟨#[]⟩ : ByteArray)
    · skip
      refine pl_val (want_on 5 false rfl 18 rfl (by kernel_rfl)) (some 21) rfl (.bool true) (fun w => Eq.trans (b := .ok (.value (.bool ((txt v h l).toList == (⟨#[]⟩ : ByteArray).toList))) w) (by kernel_rfl) (by rw [seq_pos c1])) ?_
      refine pl_val (want_no rfl) (some 22) rfl (.bool true) (fun _ => by kernel_rfl) ?_
      refine pl_val (want_no rfl) (some 23) rfl (.bool true) (fun _ => by kernel_rfl) ?_
      refine pl_skip (want_off 10 false rfl 23 rfl (by kernel_rfl)) (some 24) rfl ?_
      refine pl_skip (want_off 10 false rfl 23 rfl (by kernel_rfl)) (some 25) rfl ?_
      refine pl_skip (want_off 10 false rfl 23 rfl (by kernel_rfl)) (some 26) rfl ?_
      refine pl_val (want_no rfl) (some 27) rfl (.bool true) (fun _ => by kernel_rfl) ?_
      refine pl_nil ?_
      refine au_then ?_
      refine wp_cond_true (by kernel_rfl) ?_
      refine wp_seq ?_
      refine rg_lit ?_
      refine pl_call M (want_no rfl) (some 28) rfl 9 #[] (.bool true) (fun _ => by kernel_rfl) (fun w M => c_works w M.laid) ?_
      intro u4 M
      refine pl_val (want_no rfl) (some 8) rfl (.bool true) (fun _ => by kernel_rfl) ?_
      refine pl_nil ?_
      refine au_then ?_
      refine wp_ret ?_
      refine au_then_ret ?_
      exact bodyPost_ret (v := .bool true) (results_tmp1 Tryz.results7 _ _ _ (by kernel_rfl)) (by kernel_rfl) ⟨rfl, below_grown M.old⟩
    · skip
      refine pl_val (want_on 5 false rfl 18 rfl (by kernel_rfl)) (some 21) rfl (.bool false) (fun w => Eq.trans (b := .ok (.value (.bool ((txt v h l).toList == (⟨#[]⟩ : ByteArray).toList))) w) (by kernel_rfl) (by rw [seq_neg c1])) ?_
      refine pl_val (want_no rfl) (some 22) rfl (.bool false) (fun _ => by kernel_rfl) ?_
      refine pl_val (want_no rfl) (some 23) rfl (.bool false) (fun _ => by kernel_rfl) ?_
      refine pl_load M (want_on 10 false rfl 23 rfl (by kernel_rfl)) (some 24) rfl 24 _ rfl 1 g2 0 (by kernel_rfl) 3 24 (ls [.bool (v), .int .u64 h', .int .u64 l']) rfl 3 (ls [.bool (v), .int .u64 h', .int .u64 l']) (fun j _ => by rw [Nat.zero_add]) (by decide) _ Tryz.underlying24 rfl inz24 ?_
      refine pl_call M (want_on 10 false rfl 23 rfl (by kernel_rfl)) (some 25) rfl 22 #[.agg (av 3 (ls [.bool (v), .int .u64 h', .int .u64 l']))] (.string (txt v h' l')) (fun _ => by kernel_rfl) (fun w M => c_Text v h' l' w M.laid) ?_
      intro u4 M
      by_cases c2 : (txt v h' l') = (⟨#[]⟩ : ByteArray)
      · skip
        refine pl_val (want_on 10 false rfl 23 rfl (by kernel_rfl)) (some 26) rfl (.bool true) (fun w => Eq.trans (b := .ok (.value (.bool ((txt v h' l').toList == (⟨#[]⟩ : ByteArray).toList))) w) (by kernel_rfl) (by rw [seq_pos c2])) ?_
        refine pl_val (want_no rfl) (some 27) rfl (.bool true) (fun _ => by kernel_rfl) ?_
        refine pl_nil ?_
        refine au_then ?_
        refine wp_cond_true (by kernel_rfl) ?_
        refine wp_seq ?_
        refine rg_lit ?_
        refine pl_call M (want_no rfl) (some 28) rfl 9 #[] (.bool true) (fun _ => by kernel_rfl) (fun w M => c_works w M.laid) ?_
        intro u5 M
        refine pl_val (want_no rfl) (some 8) rfl (.bool true) (fun _ => by kernel_rfl) ?_
        refine pl_nil ?_
        refine au_then ?_
        refine wp_ret ?_
        refine au_then_ret ?_
        exact bodyPost_ret (v := .bool true) (results_tmp1 Tryz.results7 _ _ _ (by kernel_rfl)) (by kernel_rfl) ⟨rfl, below_grown M.old⟩
      · skip
        refine pl_val (want_on 10 false rfl 23 rfl (by kernel_rfl)) (some 26) rfl (.bool false) (fun w => Eq.trans (b := .ok (.value (.bool ((txt v h' l').toList == (⟨#[]⟩ : ByteArray).toList))) w) (by kernel_rfl) (by rw [seq_neg c2])) ?_
        refine pl_val (want_no rfl) (some 27) rfl (.bool false) (fun _ => by kernel_rfl) ?_
        refine pl_nil ?_
        refine au_then ?_
        refine wp_cond_false (by kernel_rfl) ?_
        refine wp_skip ?_
        refine au_then ?_
        refine wp_seq ?_
        refine rg_lit ?_
        have hma := txt_mA v h l c1
        have hmb := txt_mA v h' l' c2
        refine pl_val (want_no rfl) (some 9) rfl (.int .u8 32) (fun _ => by kernel_rfl) ?_
        refine pl_nil ?_
        refine au_then ?_
        refine wp_seq ?_
        refine wp_seq ?_
        refine rg_lit ?_
        refine pl_val (want_no rfl) (some 29) rfl (.pointer (some ⟨g1, 0, none⟩)) (fun _ => by kernel_rfl) ?_
        refine pl_cell M (want_no rfl) (some 30) rfl 4 _ rfl g1 0 (by kernel_rfl) (.bool true) (fun _ => by kernel_rfl) (fun w M => M.cell 0 rfl (by decide) (congrArg Value.bool c0)) ?_
        refine pl_nil ?_
        refine au_then ?_
        refine wp_cond_true (by kernel_rfl) ?_
        refine rg_lit ?_
        refine pl_val (want_no rfl) (some 9) rfl (.int .u8 128) (fun _ => by kernel_rfl) ?_
        refine pl_nil ?_
        refine au_then ?_
        refine wp_seq ?_
        refine rg_tail M 9 (by kernel_rfl) (by kernel_rfl) ?_
        simp only [List.take_succ_cons, List.take_zero]
        refine k_val (want_no rfl) (some 31) rfl (.int .u8 m) (fun _ => by kernel_rfl) ?_
        refine k_val (want_no rfl) (some 32) rfl (.int .u8 (wdt v)) (fun w => Eq.trans (b := .ok (.value (.int .u8 128)) w) (by kernel_rfl) (by rw [c0]; rfl)) ?_
        refine k_val (want_no rfl) (some 33) rfl (.int .u8 (wdt v + 1)) (fun w => Eq.trans (b := .ok (.value (.int .u8 (cv .u8 (wdt v + 1)))) w) (by kernel_rfl) (by rw [cv_u8]; congr 3; have := wdt_nn v; omega)) ?_
        refine k_val (want_no rfl) (some 34) rfl (.int .u8 (md m v)) (run_rem8 5 5 _ _ rfl m (wdt v + 1) (by kernel_rfl) (by kernel_rfl) (by omega) (by have := wdt_nn v; omega)) ?_
        refine k_val (want_no rfl) (some 35) rfl (.int .u8 n) (fun _ => by kernel_rfl) ?_
        refine k_val (want_no rfl) (some 36) rfl (.int .u8 (wdt v)) (fun w => Eq.trans (b := .ok (.value (.int .u8 128)) w) (by kernel_rfl) (by rw [c0]; rfl)) ?_
        refine k_val (want_no rfl) (some 37) rfl (.int .u8 (wdt v + 1)) (fun w => Eq.trans (b := .ok (.value (.int .u8 (cv .u8 (wdt v + 1)))) w) (by kernel_rfl) (by rw [cv_u8]; congr 3; have := wdt_nn v; omega)) ?_
        refine k_val (want_no rfl) (some 38) rfl (.int .u8 (md n v)) (run_rem8 5 5 _ _ rfl n (wdt v + 1) (by kernel_rfl) (by kernel_rfl) (by omega) (by have := wdt_nn v; omega)) ?_
        refine k_val (want_no rfl) (some 2) rfl (.int .u8 (md m v)) (fun _ => by kernel_rfl) ?_
        refine kl_nil ?_
        intro u5 M
        replace M : Mem ⟨w, []⟩ [⟨g1, .cells (av 3 (ls [.bool (v), .int .u64 h, .int .u64 l])) 24⟩, ⟨g2, .cells (av 3 (ls [.bool (v), .int .u64 h', .int .u64 l'])) 24⟩] u5 := M
        refine pl_val (want_no rfl) (some 3) rfl (.int .u8 (md n v)) (fun _ => by kernel_rfl) ?_
        refine pl_nil ?_
        refine au_then ?_
        refine wp_seq ?_
        refine wp_seq ?_
        refine rg_lit ?_
        refine pl_val (want_no rfl) (some 39) rfl (.int .u8 (md m v)) (fun _ => by kernel_rfl) ?_
        refine pl_val (want_no rfl) (some 40) rfl (.int .u8 (md n v)) (fun _ => by kernel_rfl) ?_
        by_cases c3 : (md n v) < (md m v)
        · skip
          refine pl_val (want_no rfl) (some 41) rfl (.bool true) (fun w => Eq.trans (b := .ok (.value (.bool (decide ((md n v) < (md m v))))) w) (by kernel_rfl) (by rw [decide_eq_true (c3)])) ?_
          refine pl_nil ?_
          refine au_then ?_
          refine wp_cond_true (by kernel_rfl) ?_
          refine rg_lit ?_
          refine pl_val (want_no rfl) (some 42) rfl (.int .u8 (md n v)) (fun _ => by kernel_rfl) ?_
          refine pl_val (want_no rfl) (some 43) rfl (.int .u8 (md m v)) (fun _ => by kernel_rfl) ?_
          refine pl_val (want_no rfl) (some 2) rfl (.int .u8 (md n v)) (fun _ => by kernel_rfl) ?_
          refine pl_val (want_no rfl) (some 3) rfl (.int .u8 (md m v)) (fun _ => by kernel_rfl) ?_
          refine pl_nil ?_
          refine au_then ?_
          refine wp_seq ?_
          refine rg_allocs M 12 [(10, fun g => .pointer (some ⟨g, 0, none⟩), .cells (av 4 (ls [.bool false, .int .u64 0, .int .u64 0, .int .u8 0])) 39), (11, fun g => .pointer (some ⟨g, 0, none⟩), .cells (av 4 (ls [.bool false, .int .u64 0, .int .u64 0, .int .u8 0])) 39), (12, fun g => .pointer (some ⟨g, 0, none⟩), .cells (av 4 (ls [.bool false, .int .u64 0, .int .u64 0, .int .u8 0])) 39)] (by kernel_rfl) (by kernel_rfl) (⟨rfl, rfl, fun _ _ => by kernel_rfl, ⟨rfl, rfl, fun _ _ => by kernel_rfl, ⟨rfl, rfl, fun _ _ => by kernel_rfl, trivial⟩⟩⟩) (by decide) ?_
          simp only [List.take_succ_cons, List.take_zero]
          refine k_load M (want_no rfl) (some 44) rfl 24 _ rfl 0 g1 0 (by kernel_rfl) 3 24 (ls [.bool (v), .int .u64 h, .int .u64 l]) rfl 3 (ls [.bool (v), .int .u64 h, .int .u64 l]) (fun j _ => by rw [Nat.zero_add]) (by decide) _ Tryz.underlying24 rfl inz24 ?_
          refine k_val (want_no rfl) (some 45) rfl (.int .u8 (md n v)) (fun _ => by kernel_rfl) ?_
          refine k_val (want_no rfl) (some 46) rfl (.int .u8 (wdt v)) (fun w => Eq.trans (b := .ok (.value (.int .u8 128)) w) (by kernel_rfl) (by rw [c0]; rfl)) ?_
          refine k_call M (want_no rfl) (some 47) rfl 32 #[.agg (av 3 (ls [.bool (v), .int .u64 h, .int .u64 l])), .int .u8 (md n v), .int .u8 (wdt v)] (.agg (av 4 (ls [.bool (v), .int .u64 (kH v h (md n v)), .int .u64 (kL v l (md n v) (wdt v)), .int .u8 (md n v)]))) (fun _ => by kernel_rfl) (fun w M => c_lcut v h l (md n v) (wdt v) (by omega) (by omega) rfl w M.laid) ?_
          refine k_load M (want_no rfl) (some 48) rfl 24 _ rfl 0 g1 0 (by kernel_rfl) 3 24 (ls [.bool (v), .int .u64 h, .int .u64 l]) rfl 3 (ls [.bool (v), .int .u64 h, .int .u64 l]) (fun j _ => by rw [Nat.zero_add]) (by decide) _ Tryz.underlying24 rfl inz24 ?_
          refine k_val (want_no rfl) (some 49) rfl (.int .u8 (md m v)) (fun _ => by kernel_rfl) ?_
          refine k_val (want_no rfl) (some 50) rfl (.int .u8 (wdt v)) (fun w => Eq.trans (b := .ok (.value (.int .u8 128)) w) (by kernel_rfl) (by rw [c0]; rfl)) ?_
          refine k_call M (want_no rfl) (some 51) rfl 32 #[.agg (av 3 (ls [.bool (v), .int .u64 h, .int .u64 l])), .int .u8 (md m v), .int .u8 (wdt v)] (.agg (av 4 (ls [.bool (v), .int .u64 (kH v h (md m v)), .int .u64 (kL v l (md m v) (wdt v)), .int .u8 (md m v)]))) (fun _ => by kernel_rfl) (fun w M => c_lcut v h l (md m v) (wdt v) (by omega) (by omega) rfl w M.laid) ?_
          refine k_load M (want_no rfl) (some 52) rfl 24 _ rfl 1 g2 0 (by kernel_rfl) 3 24 (ls [.bool (v), .int .u64 h', .int .u64 l']) rfl 3 (ls [.bool (v), .int .u64 h', .int .u64 l']) (fun j _ => by rw [Nat.zero_add]) (by decide) _ Tryz.underlying24 rfl inz24 ?_
          refine k_val (want_no rfl) (some 53) rfl (.int .u8 (md m v)) (fun _ => by kernel_rfl) ?_
          refine k_val (want_no rfl) (some 54) rfl (.int .u8 (wdt v)) (fun w => Eq.trans (b := .ok (.value (.int .u8 128)) w) (by kernel_rfl) (by rw [c0]; rfl)) ?_
          refine k_call M (want_no rfl) (some 55) rfl 32 #[.agg (av 3 (ls [.bool (v), .int .u64 h', .int .u64 l'])), .int .u8 (md m v), .int .u8 (wdt v)] (.agg (av 4 (ls [.bool (v), .int .u64 (kH v h' (md m v)), .int .u64 (kL v l' (md m v) (wdt v)), .int .u8 (md m v)]))) (fun _ => by kernel_rfl) (fun w M => c_lcut v h' l' (md m v) (wdt v) (by omega) (by omega) rfl w M.laid) ?_
          refine kl_nil ?_
          intro u6 g3 g4 g5 M
          replace M : Mem ⟨w, []⟩ [⟨g1, .cells (av 3 (ls [.bool (v), .int .u64 h, .int .u64 l])) 24⟩, ⟨g2, .cells (av 3 (ls [.bool (v), .int .u64 h', .int .u64 l'])) 24⟩, ⟨g3, .cells (av 4 (ls [.bool false, .int .u64 0, .int .u64 0, .int .u8 0])) 39⟩, ⟨g4, .cells (av 4 (ls [.bool false, .int .u64 0, .int .u64 0, .int .u8 0])) 39⟩, ⟨g5, .cells (av 4 (ls [.bool false, .int .u64 0, .int .u64 0, .int .u8 0])) 39⟩] u6 := M
          refine pl_put M (want_no rfl) rfl 39 _ _ rfl 2 g3 0 (by kernel_rfl) 4 39 (ls [.bool false, .int .u64 0, .int .u64 0, .int .u8 0]) rfl 4 (ls [.bool (v), .int .u64 (kH v h (md n v)), .int .u64 (kL v l (md n v) (wdt v)), .int .u8 (md n v)]) (ls [.bool (v), .int .u64 (kH v h (md n v)), .int .u64 (kL v l (md n v) (wdt v)), .int .u8 (md n v)]) (by kernel_rfl) inz39 (by decide) (one_ls _ rfl) (fun j hj => by rw [if_pos (by omega), Nat.sub_zero]) ?_
          intro u7 M
          replace M : Mem ⟨w, []⟩ [⟨g1, .cells (av 3 (ls [.bool (v), .int .u64 h, .int .u64 l])) 24⟩, ⟨g2, .cells (av 3 (ls [.bool (v), .int .u64 h', .int .u64 l'])) 24⟩, ⟨g3, .cells (av 4 (ls [.bool (v), .int .u64 (kH v h (md n v)), .int .u64 (kL v l (md n v) (wdt v)), .int .u8 (md n v)])) 39⟩, ⟨g4, .cells (av 4 (ls [.bool false, .int .u64 0, .int .u64 0, .int .u8 0])) 39⟩, ⟨g5, .cells (av 4 (ls [.bool false, .int .u64 0, .int .u64 0, .int .u8 0])) 39⟩] u7 := M
          refine pl_put M (want_no rfl) rfl 39 _ _ rfl 3 g4 0 (by kernel_rfl) 4 39 (ls [.bool false, .int .u64 0, .int .u64 0, .int .u8 0]) rfl 4 (ls [.bool (v), .int .u64 (kH v h (md m v)), .int .u64 (kL v l (md m v) (wdt v)), .int .u8 (md m v)]) (ls [.bool (v), .int .u64 (kH v h (md m v)), .int .u64 (kL v l (md m v) (wdt v)), .int .u8 (md m v)]) (by kernel_rfl) inz39 (by decide) (one_ls _ rfl) (fun j hj => by rw [if_pos (by omega), Nat.sub_zero]) ?_
          intro u8 M
          replace M : Mem ⟨w, []⟩ [⟨g1, .cells (av 3 (ls [.bool (v), .int .u64 h, .int .u64 l])) 24⟩, ⟨g2, .cells (av 3 (ls [.bool (v), .int .u64 h', .int .u64 l'])) 24⟩, ⟨g3, .cells (av 4 (ls [.bool (v), .int .u64 (kH v h (md n v)), .int .u64 (kL v l (md n v) (wdt v)), .int .u8 (md n v)])) 39⟩, ⟨g4, .cells (av 4 (ls [.bool (v), .int .u64 (kH v h (md m v)), .int .u64 (kL v l (md m v) (wdt v)), .int .u8 (md m v)])) 39⟩, ⟨g5, .cells (av 4 (ls [.bool false, .int .u64 0, .int .u64 0, .int .u8 0])) 39⟩] u8 := M
          refine pl_put M (want_no rfl) rfl 39 _ _ rfl 4 g5 0 (by kernel_rfl) 4 39 (ls [.bool false, .int .u64 0, .int .u64 0, .int .u8 0]) rfl 4 (ls [.bool (v), .int .u64 (kH v h' (md m v)), .int .u64 (kL v l' (md m v) (wdt v)), .int .u8 (md m v)]) (ls [.bool (v), .int .u64 (kH v h' (md m v)), .int .u64 (kL v l' (md m v) (wdt v)), .int .u8 (md m v)]) (by kernel_rfl) inz39 (by decide) (one_ls _ rfl) (fun j hj => by rw [if_pos (by omega), Nat.sub_zero]) ?_
          intro u9 M
          replace M : Mem ⟨w, []⟩ [⟨g1, .cells (av 3 (ls [.bool (v), .int .u64 h, .int .u64 l])) 24⟩, ⟨g2, .cells (av 3 (ls [.bool (v), .int .u64 h', .int .u64 l'])) 24⟩, ⟨g3, .cells (av 4 (ls [.bool (v), .int .u64 (kH v h (md n v)), .int .u64 (kL v l (md n v) (wdt v)), .int .u8 (md n v)])) 39⟩, ⟨g4, .cells (av 4 (ls [.bool (v), .int .u64 (kH v h (md m v)), .int .u64 (kL v l (md m v) (wdt v)), .int .u8 (md m v)])) 39⟩, ⟨g5, .cells (av 4 (ls [.bool (v), .int .u64 (kH v h' (md m v)), .int .u64 (kL v l' (md m v) (wdt v)), .int .u8 (md m v)])) 39⟩] u9 := M
          refine pl_nil ?_
          refine au_then ?_
          refine wp_seq ?_
          refine wp_seq ?_
          refine rg_lit ?_
          refine pl_load M (want_no rfl) (some 56) rfl 39 _ rfl 2 g3 0 (by kernel_rfl) 4 39 (ls [.bool (v), .int .u64 (kH v h (md n v)), .int .u64 (kL v l (md n v) (wdt v)), .int .u8 (md n v)]) rfl 4 (ls [.bool (v), .int .u64 (kH v h (md n v)), .int .u64 (kL v l (md n v) (wdt v)), .int .u8 (md n v)]) (fun j _ => by rw [Nat.zero_add]) (by decide) _ Tryz.underlying39 rfl inz39 ?_
          refine pl_call M (want_no rfl) (some 57) rfl 26 #[.agg (av 4 (ls [.bool (v), .int .u64 (kH v h (md n v)), .int .u64 (kL v l (md n v) (wdt v)), .int .u8 (md n v)]))] (.bool true) (fun _ => by kernel_rfl) (fun w M => call_val (c_MayPrefix v (kH v h (md n v)) (kL v l (md n v) (wdt v)) (md n v) (by omega) (by omega) w M.laid) (congrArg Value.bool (mP_cut v h l (md n v) h0 h1 l0 l1 hma (by omega) (by omega)))) ?_
          intro u10 M
          refine pl_val (want_no rfl) (some 58) rfl (.bool false) (fun _ => by kernel_rfl) ?_
          refine pl_val (want_no rfl) (some 59) rfl (.bool false) (fun _ => by kernel_rfl) ?_
          refine pl_load M (want_on 3 false rfl 59 rfl (by kernel_rfl)) (some 60) rfl 39 _ rfl 3 g4 0 (by kernel_rfl) 4 39 (ls [.bool (v), .int .u64 (kH v h (md m v)), .int .u64 (kL v l (md m v) (wdt v)), .int .u8 (md m v)]) rfl 4 (ls [.bool (v), .int .u64 (kH v h (md m v)), .int .u64 (kL v l (md m v) (wdt v)), .int .u8 (md m v)]) (fun j _ => by rw [Nat.zero_add]) (by decide) _ Tryz.underlying39 rfl inz39 ?_
          refine pl_call M (want_on 3 false rfl 59 rfl (by kernel_rfl)) (some 61) rfl 26 #[.agg (av 4 (ls [.bool (v), .int .u64 (kH v h (md m v)), .int .u64 (kL v l (md m v) (wdt v)), .int .u8 (md m v)]))] (.bool true) (fun _ => by kernel_rfl) (fun w M => call_val (c_MayPrefix v (kH v h (md m v)) (kL v l (md m v) (wdt v)) (md m v) (by omega) (by omega) w M.laid) (congrArg Value.bool (mP_cut v h l (md m v) h0 h1 l0 l1 hma (by omega) (by omega)))) ?_
          intro u11 M
          refine pl_val (want_on 3 false rfl 59 rfl (by kernel_rfl)) (some 62) rfl (.bool false) (fun _ => by kernel_rfl) ?_
          refine pl_val (want_no rfl) (some 63) rfl (.bool false) (fun _ => by kernel_rfl) ?_
          refine pl_val (want_no rfl) (some 64) rfl (.bool false) (fun _ => by kernel_rfl) ?_
          refine pl_load M (want_on 8 false rfl 64 rfl (by kernel_rfl)) (some 65) rfl 39 _ rfl 2 g3 0 (by kernel_rfl) 4 39 (ls [.bool (v), .int .u64 (kH v h (md n v)), .int .u64 (kL v l (md n v) (wdt v)), .int .u8 (md n v)]) rfl 4 (ls [.bool (v), .int .u64 (kH v h (md n v)), .int .u64 (kL v l (md n v) (wdt v)), .int .u8 (md n v)]) (fun j _ => by rw [Nat.zero_add]) (by decide) _ Tryz.underlying39 rfl inz39 ?_
          refine pl_load M (want_on 8 false rfl 64 rfl (by kernel_rfl)) (some 66) rfl 24 _ rfl 0 g1 0 (by kernel_rfl) 3 24 (ls [.bool (v), .int .u64 h, .int .u64 l]) rfl 3 (ls [.bool (v), .int .u64 h, .int .u64 l]) (fun j _ => by rw [Nat.zero_add]) (by decide) _ Tryz.underlying24 rfl inz24 ?_
          refine pl_call M (want_on 8 false rfl 64 rfl (by kernel_rfl)) (some 67) rfl 28 #[.agg (av 4 (ls [.bool (v), .int .u64 (kH v h (md n v)), .int .u64 (kL v l (md n v) (wdt v)), .int .u8 (md n v)])), .agg (av 3 (ls [.bool (v), .int .u64 h, .int .u64 l]))] (.bool true) (fun _ => by kernel_rfl) (fun w M => call_val (c_Holds v (kH v h (md n v)) (kL v l (md n v) (wdt v)) (md n v) (by omega) (by omega) v h l w M.laid) (congrArg Value.bool (hO_own v h l (md n v) h0 h1 l0 l1 hma (by omega) (by omega)))) ?_
          intro u12 M
          refine pl_val (want_on 8 false rfl 64 rfl (by kernel_rfl)) (some 68) rfl (.bool false) (fun _ => by kernel_rfl) ?_
          refine pl_val (want_no rfl) (some 69) rfl (.bool false) (fun _ => by kernel_rfl) ?_
          refine pl_val (want_no rfl) (some 70) rfl (.bool false) (fun _ => by kernel_rfl) ?_
          refine pl_load M (want_on 14 false rfl 70 rfl (by kernel_rfl)) (some 71) rfl 39 _ rfl 3 g4 0 (by kernel_rfl) 4 39 (ls [.bool (v), .int .u64 (kH v h (md m v)), .int .u64 (kL v l (md m v) (wdt v)), .int .u8 (md m v)]) rfl 4 (ls [.bool (v), .int .u64 (kH v h (md m v)), .int .u64 (kL v l (md m v) (wdt v)), .int .u8 (md m v)]) (fun j _ => by rw [Nat.zero_add]) (by decide) _ Tryz.underlying39 rfl inz39 ?_
          refine pl_load M (want_on 14 false rfl 70 rfl (by kernel_rfl)) (some 72) rfl 24 _ rfl 0 g1 0 (by kernel_rfl) 3 24 (ls [.bool (v), .int .u64 h, .int .u64 l]) rfl 3 (ls [.bool (v), .int .u64 h, .int .u64 l]) (fun j _ => by rw [Nat.zero_add]) (by decide) _ Tryz.underlying24 rfl inz24 ?_
          refine pl_call M (want_on 14 false rfl 70 rfl (by kernel_rfl)) (some 73) rfl 28 #[.agg (av 4 (ls [.bool (v), .int .u64 (kH v h (md m v)), .int .u64 (kL v l (md m v) (wdt v)), .int .u8 (md m v)])), .agg (av 3 (ls [.bool (v), .int .u64 h, .int .u64 l]))] (.bool true) (fun _ => by kernel_rfl) (fun w M => call_val (c_Holds v (kH v h (md m v)) (kL v l (md m v) (wdt v)) (md m v) (by omega) (by omega) v h l w M.laid) (congrArg Value.bool (hO_own v h l (md m v) h0 h1 l0 l1 hma (by omega) (by omega)))) ?_
          intro u13 M
          refine pl_val (want_on 14 false rfl 70 rfl (by kernel_rfl)) (some 74) rfl (.bool false) (fun _ => by kernel_rfl) ?_
          refine pl_val (want_no rfl) (some 75) rfl (.bool false) (fun _ => by kernel_rfl) ?_
          refine pl_nil ?_
          refine au_then ?_
          refine wp_cond_false (by kernel_rfl) ?_
          refine wp_skip ?_
          refine au_then ?_
          refine wp_seq ?_
          refine wp_seq ?_
          refine rg_lit ?_
          refine pl_load M (want_no rfl) (some 76) rfl 39 _ rfl 3 g4 0 (by kernel_rfl) 4 39 (ls [.bool (v), .int .u64 (kH v h (md m v)), .int .u64 (kL v l (md m v) (wdt v)), .int .u8 (md m v)]) rfl 4 (ls [.bool (v), .int .u64 (kH v h (md m v)), .int .u64 (kL v l (md m v) (wdt v)), .int .u8 (md m v)]) (fun j _ => by rw [Nat.zero_add]) (by decide) _ Tryz.underlying39 rfl inz39 ?_
          refine pl_load M (want_no rfl) (some 77) rfl 24 _ rfl 1 g2 0 (by kernel_rfl) 3 24 (ls [.bool (v), .int .u64 h', .int .u64 l']) rfl 3 (ls [.bool (v), .int .u64 h', .int .u64 l']) (fun j _ => by rw [Nat.zero_add]) (by decide) _ Tryz.underlying24 rfl inz24 ?_
          rcases Bool.eq_false_or_eq_true (hO v (kH v h (md m v)) (kL v l (md m v) (wdt v)) (md m v) v h' l') with c4 | c4
          · skip
            refine pl_call M (want_no rfl) (some 78) rfl 28 #[.agg (av 4 (ls [.bool (v), .int .u64 (kH v h (md m v)), .int .u64 (kL v l (md m v) (wdt v)), .int .u8 (md m v)])), .agg (av 3 (ls [.bool (v), .int .u64 h', .int .u64 l']))] (.bool true) (fun _ => by kernel_rfl) (fun w M => call_val (c_Holds v (kH v h (md m v)) (kL v l (md m v) (wdt v)) (md m v) (by omega) (by omega) v h' l' w M.laid) (congrArg Value.bool c4)) ?_
            intro u14 M
            refine pl_val (want_no rfl) (some 79) rfl (.bool true) (fun _ => by kernel_rfl) ?_
            refine pl_load M (want_on 3 true rfl 79 rfl (by kernel_rfl)) (some 80) rfl 39 _ rfl 2 g3 0 (by kernel_rfl) 4 39 (ls [.bool (v), .int .u64 (kH v h (md n v)), .int .u64 (kL v l (md n v) (wdt v)), .int .u8 (md n v)]) rfl 4 (ls [.bool (v), .int .u64 (kH v h (md n v)), .int .u64 (kL v l (md n v) (wdt v)), .int .u8 (md n v)]) (fun j _ => by rw [Nat.zero_add]) (by decide) _ Tryz.underlying39 rfl inz39 ?_
            refine pl_load M (want_on 3 true rfl 79 rfl (by kernel_rfl)) (some 81) rfl 24 _ rfl 1 g2 0 (by kernel_rfl) 3 24 (ls [.bool (v), .int .u64 h', .int .u64 l']) rfl 3 (ls [.bool (v), .int .u64 h', .int .u64 l']) (fun j _ => by rw [Nat.zero_add]) (by decide) _ Tryz.underlying24 rfl inz24 ?_
            refine pl_call M (want_on 3 true rfl 79 rfl (by kernel_rfl)) (some 82) rfl 28 #[.agg (av 4 (ls [.bool (v), .int .u64 (kH v h (md n v)), .int .u64 (kL v l (md n v) (wdt v)), .int .u8 (md n v)])), .agg (av 3 (ls [.bool (v), .int .u64 h', .int .u64 l']))] (.bool true) (fun _ => by kernel_rfl) (fun w M => call_val (c_Holds v (kH v h (md n v)) (kL v l (md n v) (wdt v)) (md n v) (by omega) (by omega) v h' l' w M.laid) (congrArg Value.bool (hO_short v h l h0 h1 l0 l1 hma h' l' p0 p1 k0 k1 hmb (md n v) (md m v) (by omega) (by omega) (by omega) c4))) ?_
            intro u15 M
            refine pl_val (want_on 3 true rfl 79 rfl (by kernel_rfl)) (some 83) rfl (.bool false) (fun _ => by kernel_rfl) ?_
            refine pl_val (want_on 3 true rfl 79 rfl (by kernel_rfl)) (some 84) rfl (.bool false) (fun _ => by kernel_rfl) ?_
            refine pl_load M (want_on 8 false rfl 84 rfl (by kernel_rfl)) (some 85) rfl 39 _ rfl 4 g5 0 (by kernel_rfl) 4 39 (ls [.bool (v), .int .u64 (kH v h' (md m v)), .int .u64 (kL v l' (md m v) (wdt v)), .int .u8 (md m v)]) rfl 4 (ls [.bool (v), .int .u64 (kH v h' (md m v)), .int .u64 (kL v l' (md m v) (wdt v)), .int .u8 (md m v)]) (fun j _ => by rw [Nat.zero_add]) (by decide) _ Tryz.underlying39 rfl inz39 ?_
            refine pl_load M (want_on 8 false rfl 84 rfl (by kernel_rfl)) (some 86) rfl 39 _ rfl 3 g4 0 (by kernel_rfl) 4 39 (ls [.bool (v), .int .u64 (kH v h (md m v)), .int .u64 (kL v l (md m v) (wdt v)), .int .u8 (md m v)]) rfl 4 (ls [.bool (v), .int .u64 (kH v h (md m v)), .int .u64 (kL v l (md m v) (wdt v)), .int .u8 (md m v)]) (fun j _ => by rw [Nat.zero_add]) (by decide) _ Tryz.underlying39 rfl inz39 ?_
            refine pl_val (want_on 8 false rfl 84 rfl (by kernel_rfl)) (some 87) rfl (.bool false) (fun w => (neq39 v v (kH v h' (md m v)) (kH v h (md m v)) (kL v l' (md m v) (wdt v)) (kL v l (md m v) (wdt v)) (md m v) (md m v) _ _ rfl (by kernel_rfl) (by kernel_rfl) w).trans (by rw [hO_other v h l h0 h1 l0 l1 hma h' l' p0 p1 k0 k1 hmb (md n v) (md m v) (by omega) (by omega) (by omega), c4]; rfl)) ?_
            refine pl_val (want_on 3 true rfl 79 rfl (by kernel_rfl)) (some 88) rfl (.bool false) (fun _ => by kernel_rfl) ?_
            refine pl_val (want_no rfl) (some 89) rfl (.bool false) (fun _ => by kernel_rfl) ?_
            refine pl_nil ?_
            refine au_then ?_
            refine wp_cond_false (by kernel_rfl) ?_
            refine wp_skip ?_
            refine au_then ?_
            refine wp_seq ?_
            refine rg_tail M 26 (by kernel_rfl) (by kernel_rfl) ?_
            simp only [List.take_succ_cons, List.take_zero]
            refine k_load M (want_no rfl) (some 90) rfl 39 _ rfl 3 g4 0 (by kernel_rfl) 4 39 (ls [.bool (v), .int .u64 (kH v h (md m v)), .int .u64 (kL v l (md m v) (wdt v)), .int .u8 (md m v)]) rfl 4 (ls [.bool (v), .int .u64 (kH v h (md m v)), .int .u64 (kL v l (md m v) (wdt v)), .int .u8 (md m v)]) (fun j _ => by rw [Nat.zero_add]) (by decide) _ Tryz.underlying39 rfl inz39 ?_
            refine k_load M (want_no rfl) (some 91) rfl 24 _ rfl 1 g2 0 (by kernel_rfl) 3 24 (ls [.bool (v), .int .u64 h', .int .u64 l']) rfl 3 (ls [.bool (v), .int .u64 h', .int .u64 l']) (fun j _ => by rw [Nat.zero_add]) (by decide) _ Tryz.underlying24 rfl inz24 ?_
            refine k_call M (want_no rfl) (some 92) rfl 28 #[.agg (av 4 (ls [.bool (v), .int .u64 (kH v h (md m v)), .int .u64 (kL v l (md m v) (wdt v)), .int .u8 (md m v)])), .agg (av 3 (ls [.bool (v), .int .u64 h', .int .u64 l']))] (.bool true) (fun _ => by kernel_rfl) (fun w M => call_val (c_Holds v (kH v h (md m v)) (kL v l (md m v) (wdt v)) (md m v) (by omega) (by omega) v h' l' w M.laid) (congrArg Value.bool c4)) ?_
            refine k_load M (want_no rfl) (some 93) rfl 39 _ rfl 4 g5 0 (by kernel_rfl) 4 39 (ls [.bool (v), .int .u64 (kH v h' (md m v)), .int .u64 (kL v l' (md m v) (wdt v)), .int .u8 (md m v)]) rfl 4 (ls [.bool (v), .int .u64 (kH v h' (md m v)), .int .u64 (kL v l' (md m v) (wdt v)), .int .u8 (md m v)]) (fun j _ => by rw [Nat.zero_add]) (by decide) _ Tryz.underlying39 rfl inz39 ?_
            refine k_load M (want_no rfl) (some 94) rfl 39 _ rfl 3 g4 0 (by kernel_rfl) 4 39 (ls [.bool (v), .int .u64 (kH v h (md m v)), .int .u64 (kL v l (md m v) (wdt v)), .int .u8 (md m v)]) rfl 4 (ls [.bool (v), .int .u64 (kH v h (md m v)), .int .u64 (kL v l (md m v) (wdt v)), .int .u8 (md m v)]) (fun j _ => by rw [Nat.zero_add]) (by decide) _ Tryz.underlying39 rfl inz39 ?_
            refine k_val (want_no rfl) (some 95) rfl (.bool true) (fun w => (eql39 v v (kH v h' (md m v)) (kH v h (md m v)) (kL v l' (md m v) (wdt v)) (kL v l (md m v) (wdt v)) (md m v) (md m v) _ _ rfl (by kernel_rfl) (by kernel_rfl) w).trans (by rw [hO_other v h l h0 h1 l0 l1 hma h' l' p0 p1 k0 k1 hmb (md n v) (md m v) (by omega) (by omega) (by omega), c4])) ?_
            refine k_val (want_no rfl) (some 96) rfl (.bool true) (fun _ => by kernel_rfl) ?_
            refine k_val (want_no rfl) (some 97) rfl (.bool true) (fun _ => by kernel_rfl) ?_
            refine k_load M (want_on 7 true rfl 97 rfl (by kernel_rfl)) (some 98) rfl 24 _ rfl 0 g1 0 (by kernel_rfl) 3 24 (ls [.bool (v), .int .u64 h, .int .u64 l]) rfl 3 (ls [.bool (v), .int .u64 h, .int .u64 l]) (fun j _ => by rw [Nat.zero_add]) (by decide) _ Tryz.underlying24 rfl inz24 ?_
            refine k_load M (want_on 7 true rfl 97 rfl (by kernel_rfl)) (some 99) rfl 24 _ rfl 1 g2 0 (by kernel_rfl) 3 24 (ls [.bool (v), .int .u64 h', .int .u64 l']) rfl 3 (ls [.bool (v), .int .u64 h', .int .u64 l']) (fun j _ => by rw [Nat.zero_add]) (by decide) _ Tryz.underlying24 rfl inz24 ?_
            by_cases c5 : v = v ∧ h = h' ∧ l = l'
            · skip
              refine k_val (want_on 7 true rfl 97 rfl (by kernel_rfl)) (some 100) rfl (.bool true) (fun w => (eql24 v v h h' l l' _ _ rfl (by kernel_rfl) (by kernel_rfl) w).trans (by rw [decide_eq_true c5])) ?_
              refine k_load M (want_on 7 true rfl 97 rfl (by kernel_rfl)) (some 101) rfl 24 _ rfl 0 g1 0 (by kernel_rfl) 3 24 (ls [.bool (v), .int .u64 h, .int .u64 l]) rfl 3 (ls [.bool (v), .int .u64 h, .int .u64 l]) (fun j _ => by rw [Nat.zero_add]) (by decide) _ Tryz.underlying24 rfl inz24 ?_
              refine k_load M (want_on 7 true rfl 97 rfl (by kernel_rfl)) (some 102) rfl 24 _ rfl 1 g2 0 (by kernel_rfl) 3 24 (ls [.bool (v), .int .u64 h', .int .u64 l']) rfl 3 (ls [.bool (v), .int .u64 h', .int .u64 l']) (fun j _ => by rw [Nat.zero_add]) (by decide) _ Tryz.underlying24 rfl inz24 ?_
              refine k_call M (want_on 7 true rfl 97 rfl (by kernel_rfl)) (some 103) rfl 30 #[.agg (av 3 (ls [.bool (v), .int .u64 h, .int .u64 l])), .agg (av 3 (ls [.bool (v), .int .u64 h', .int .u64 l']))] (.bool false) (fun _ => by kernel_rfl) (fun w M => call_val (c_Less v h l v h' l' w M.laid) (congrArg Value.bool (lS_no (decide_eq_true c5) (lS_anti v h l h' l')).1)) ?_
              refine k_val (want_on 7 true rfl 97 rfl (by kernel_rfl)) (some 104) rfl (.bool true) (fun _ => by kernel_rfl) ?_
              refine k_val (want_on 7 true rfl 97 rfl (by kernel_rfl)) (some 105) rfl (.bool true) (fun _ => by kernel_rfl) ?_
              refine k_load M (want_on 15 true rfl 105 rfl (by kernel_rfl)) (some 106) rfl 24 _ rfl 1 g2 0 (by kernel_rfl) 3 24 (ls [.bool (v), .int .u64 h', .int .u64 l']) rfl 3 (ls [.bool (v), .int .u64 h', .int .u64 l']) (fun j _ => by rw [Nat.zero_add]) (by decide) _ Tryz.underlying24 rfl inz24 ?_
              refine k_load M (want_on 15 true rfl 105 rfl (by kernel_rfl)) (some 107) rfl 24 _ rfl 0 g1 0 (by kernel_rfl) 3 24 (ls [.bool (v), .int .u64 h, .int .u64 l]) rfl 3 (ls [.bool (v), .int .u64 h, .int .u64 l]) (fun j _ => by rw [Nat.zero_add]) (by decide) _ Tryz.underlying24 rfl inz24 ?_
              refine k_call M (want_on 15 true rfl 105 rfl (by kernel_rfl)) (some 108) rfl 30 #[.agg (av 3 (ls [.bool (v), .int .u64 h', .int .u64 l'])), .agg (av 3 (ls [.bool (v), .int .u64 h, .int .u64 l]))] (.bool false) (fun _ => by kernel_rfl) (fun w M => call_val (c_Less v h' l' v h l w M.laid) (congrArg Value.bool (lS_no (decide_eq_true c5) (lS_anti v h l h' l')).2)) ?_
              refine k_val (want_on 15 true rfl 105 rfl (by kernel_rfl)) (some 109) rfl (.bool true) (fun _ => by kernel_rfl) ?_
              refine k_val (want_on 7 true rfl 97 rfl (by kernel_rfl)) (some 110) rfl (.bool true) (fun _ => by kernel_rfl) ?_
              refine k_val (want_on 7 true rfl 97 rfl (by kernel_rfl)) (some 111) rfl (.bool true) (fun _ => by kernel_rfl) ?_
              refine k_val (want_no rfl) (some 112) rfl (.bool true) (fun _ => by kernel_rfl) ?_
              refine k_val (want_no rfl) (some 113) rfl (.bool true) (fun _ => by kernel_rfl) ?_
              refine k_call M (want_on 23 true rfl 113 rfl (by kernel_rfl)) (some 114) rfl 9 #[] (.bool true) (fun _ => by kernel_rfl) (fun w M => c_works w M.laid) ?_
              refine k_val (want_no rfl) (some 115) rfl (.bool true) (fun _ => by kernel_rfl) ?_
              refine kl_nil ?_
              intro u16 M
              replace M : Mem ⟨w, []⟩ [⟨g1, .cells (av 3 (ls [.bool (v), .int .u64 h, .int .u64 l])) 24⟩, ⟨g2, .cells (av 3 (ls [.bool (v), .int .u64 h', .int .u64 l'])) 24⟩, ⟨g3, .cells (av 4 (ls [.bool (v), .int .u64 (kH v h (md n v)), .int .u64 (kL v l (md n v) (wdt v)), .int .u8 (md n v)])) 39⟩, ⟨g4, .cells (av 4 (ls [.bool (v), .int .u64 (kH v h (md m v)), .int .u64 (kL v l (md m v) (wdt v)), .int .u8 (md m v)])) 39⟩, ⟨g5, .cells (av 4 (ls [.bool (v), .int .u64 (kH v h' (md m v)), .int .u64 (kL v l' (md m v) (wdt v)), .int .u8 (md m v)])) 39⟩] u16 := M
              refine pl_val (want_no rfl) (some 8) rfl (.bool true) (fun _ => by kernel_rfl) ?_
              refine pl_nil ?_
              refine au_then ?_
              refine wp_ret ?_
              exact bodyPost_ret (v := .bool true) (results_tmp1 Tryz.results7 _ _ _ (by kernel_rfl)) (by kernel_rfl) ⟨rfl, below_grown M.old⟩
            · skip
              refine k_val (want_on 7 true rfl 97 rfl (by kernel_rfl)) (some 100) rfl (.bool false) (fun w => (eql24 v v h h' l l' _ _ rfl (by kernel_rfl) (by kernel_rfl) w).trans (by rw [decide_eq_false c5])) ?_
              refine k_load M (want_on 7 true rfl 97 rfl (by kernel_rfl)) (some 101) rfl 24 _ rfl 0 g1 0 (by kernel_rfl) 3 24 (ls [.bool (v), .int .u64 h, .int .u64 l]) rfl 3 (ls [.bool (v), .int .u64 h, .int .u64 l]) (fun j _ => by rw [Nat.zero_add]) (by decide) _ Tryz.underlying24 rfl inz24 ?_
              refine k_load M (want_on 7 true rfl 97 rfl (by kernel_rfl)) (some 102) rfl 24 _ rfl 1 g2 0 (by kernel_rfl) 3 24 (ls [.bool (v), .int .u64 h', .int .u64 l']) rfl 3 (ls [.bool (v), .int .u64 h', .int .u64 l']) (fun j _ => by rw [Nat.zero_add]) (by decide) _ Tryz.underlying24 rfl inz24 ?_
              rcases Bool.eq_false_or_eq_true (lS v h l v h' l') with c6 | c6
              · skip
                refine k_call M (want_on 7 true rfl 97 rfl (by kernel_rfl)) (some 103) rfl 30 #[.agg (av 3 (ls [.bool (v), .int .u64 h, .int .u64 l])), .agg (av 3 (ls [.bool (v), .int .u64 h', .int .u64 l']))] (.bool true) (fun _ => by kernel_rfl) (fun w M => call_val (c_Less v h l v h' l' w M.laid) (congrArg Value.bool c6)) ?_
                refine k_val (want_on 7 true rfl 97 rfl (by kernel_rfl)) (some 104) rfl (.bool false) (fun _ => by kernel_rfl) ?_
                refine k_val (want_on 7 true rfl 97 rfl (by kernel_rfl)) (some 105) rfl (.bool false) (fun _ => by kernel_rfl) ?_
                refine k_skip (want_off 15 true rfl 105 rfl (by kernel_rfl)) (some 106) rfl ?_
                refine k_skip (want_off 15 true rfl 105 rfl (by kernel_rfl)) (some 107) rfl ?_
                refine k_skip (want_off 15 true rfl 105 rfl (by kernel_rfl)) (some 108) rfl ?_
                refine k_skip (want_off 15 true rfl 105 rfl (by kernel_rfl)) (some 109) rfl ?_
                refine k_val (want_on 7 true rfl 97 rfl (by kernel_rfl)) (some 110) rfl (.bool false) (fun _ => by kernel_rfl) ?_
                refine k_val (want_on 7 true rfl 97 rfl (by kernel_rfl)) (some 111) rfl (.bool true) (fun _ => by kernel_rfl) ?_
                refine k_val (want_no rfl) (some 112) rfl (.bool true) (fun _ => by kernel_rfl) ?_
                refine k_val (want_no rfl) (some 113) rfl (.bool true) (fun _ => by kernel_rfl) ?_
                refine k_call M (want_on 23 true rfl 113 rfl (by kernel_rfl)) (some 114) rfl 9 #[] (.bool true) (fun _ => by kernel_rfl) (fun w M => c_works w M.laid) ?_
                refine k_val (want_no rfl) (some 115) rfl (.bool true) (fun _ => by kernel_rfl) ?_
                refine kl_nil ?_
                intro u16 M
                replace M : Mem ⟨w, []⟩ [⟨g1, .cells (av 3 (ls [.bool (v), .int .u64 h, .int .u64 l])) 24⟩, ⟨g2, .cells (av 3 (ls [.bool (v), .int .u64 h', .int .u64 l'])) 24⟩, ⟨g3, .cells (av 4 (ls [.bool (v), .int .u64 (kH v h (md n v)), .int .u64 (kL v l (md n v) (wdt v)), .int .u8 (md n v)])) 39⟩, ⟨g4, .cells (av 4 (ls [.bool (v), .int .u64 (kH v h (md m v)), .int .u64 (kL v l (md m v) (wdt v)), .int .u8 (md m v)])) 39⟩, ⟨g5, .cells (av 4 (ls [.bool (v), .int .u64 (kH v h' (md m v)), .int .u64 (kL v l' (md m v) (wdt v)), .int .u8 (md m v)])) 39⟩] u16 := M
                refine pl_val (want_no rfl) (some 8) rfl (.bool true) (fun _ => by kernel_rfl) ?_
                refine pl_nil ?_
                refine au_then ?_
                refine wp_ret ?_
                exact bodyPost_ret (v := .bool true) (results_tmp1 Tryz.results7 _ _ _ (by kernel_rfl)) (by kernel_rfl) ⟨rfl, below_grown M.old⟩
              · skip
                refine k_call M (want_on 7 true rfl 97 rfl (by kernel_rfl)) (some 103) rfl 30 #[.agg (av 3 (ls [.bool (v), .int .u64 h, .int .u64 l])), .agg (av 3 (ls [.bool (v), .int .u64 h', .int .u64 l']))] (.bool false) (fun _ => by kernel_rfl) (fun w M => call_val (c_Less v h l v h' l' w M.laid) (congrArg Value.bool c6)) ?_
                refine k_val (want_on 7 true rfl 97 rfl (by kernel_rfl)) (some 104) rfl (.bool true) (fun _ => by kernel_rfl) ?_
                refine k_val (want_on 7 true rfl 97 rfl (by kernel_rfl)) (some 105) rfl (.bool true) (fun _ => by kernel_rfl) ?_
                refine k_load M (want_on 15 true rfl 105 rfl (by kernel_rfl)) (some 106) rfl 24 _ rfl 1 g2 0 (by kernel_rfl) 3 24 (ls [.bool (v), .int .u64 h', .int .u64 l']) rfl 3 (ls [.bool (v), .int .u64 h', .int .u64 l']) (fun j _ => by rw [Nat.zero_add]) (by decide) _ Tryz.underlying24 rfl inz24 ?_
                refine k_load M (want_on 15 true rfl 105 rfl (by kernel_rfl)) (some 107) rfl 24 _ rfl 0 g1 0 (by kernel_rfl) 3 24 (ls [.bool (v), .int .u64 h, .int .u64 l]) rfl 3 (ls [.bool (v), .int .u64 h, .int .u64 l]) (fun j _ => by rw [Nat.zero_add]) (by decide) _ Tryz.underlying24 rfl inz24 ?_
                refine k_call M (want_on 15 true rfl 105 rfl (by kernel_rfl)) (some 108) rfl 30 #[.agg (av 3 (ls [.bool (v), .int .u64 h', .int .u64 l'])), .agg (av 3 (ls [.bool (v), .int .u64 h, .int .u64 l]))] (.bool true) (fun _ => by kernel_rfl) (fun w M => call_val (c_Less v h' l' v h l w M.laid) (congrArg Value.bool (lS_yes (decide_eq_false c5) (lS_anti v h l h' l') c6))) ?_
                refine k_val (want_on 15 true rfl 105 rfl (by kernel_rfl)) (some 109) rfl (.bool false) (fun _ => by kernel_rfl) ?_
                refine k_val (want_on 7 true rfl 97 rfl (by kernel_rfl)) (some 110) rfl (.bool false) (fun _ => by kernel_rfl) ?_
                refine k_val (want_on 7 true rfl 97 rfl (by kernel_rfl)) (some 111) rfl (.bool true) (fun _ => by kernel_rfl) ?_
                refine k_val (want_no rfl) (some 112) rfl (.bool true) (fun _ => by kernel_rfl) ?_
                refine k_val (want_no rfl) (some 113) rfl (.bool true) (fun _ => by kernel_rfl) ?_
                refine k_call M (want_on 23 true rfl 113 rfl (by kernel_rfl)) (some 114) rfl 9 #[] (.bool true) (fun _ => by kernel_rfl) (fun w M => c_works w M.laid) ?_
                refine k_val (want_no rfl) (some 115) rfl (.bool true) (fun _ => by kernel_rfl) ?_
                refine kl_nil ?_
                intro u16 M
                replace M : Mem ⟨w, []⟩ [⟨g1, .cells (av 3 (ls [.bool (v), .int .u64 h, .int .u64 l])) 24⟩, ⟨g2, .cells (av 3 (ls [.bool (v), .int .u64 h', .int .u64 l'])) 24⟩, ⟨g3, .cells (av 4 (ls [.bool (v), .int .u64 (kH v h (md n v)), .int .u64 (kL v l (md n v) (wdt v)), .int .u8 (md n v)])) 39⟩, ⟨g4, .cells (av 4 (ls [.bool (v), .int .u64 (kH v h (md m v)), .int .u64 (kL v l (md m v) (wdt v)), .int .u8 (md m v)])) 39⟩, ⟨g5, .cells (av 4 (ls [.bool (v), .int .u64 (kH v h' (md m v)), .int .u64 (kL v l' (md m v) (wdt v)), .int .u8 (md m v)])) 39⟩] u16 := M
                refine pl_val (want_no rfl) (some 8) rfl (.bool true) (fun _ => by kernel_rfl) ?_
                refine pl_nil ?_
                refine au_then ?_
                refine wp_ret ?_
                exact bodyPost_ret (v := .bool true) (results_tmp1 Tryz.results7 _ _ _ (by kernel_rfl)) (by kernel_rfl) ⟨rfl, below_grown M.old⟩
          · skip
            refine pl_call M (want_no rfl) (some 78) rfl 28 #[.agg (av 4 (ls [.bool (v), .int .u64 (kH v h (md m v)), .int .u64 (kL v l (md m v) (wdt v)), .int .u8 (md m v)])), .agg (av 3 (ls [.bool (v), .int .u64 h', .int .u64 l']))] (.bool false) (fun _ => by kernel_rfl) (fun w M => call_val (c_Holds v (kH v h (md m v)) (kL v l (md m v) (wdt v)) (md m v) (by omega) (by omega) v h' l' w M.laid) (congrArg Value.bool c4)) ?_
            intro u14 M
            refine pl_val (want_no rfl) (some 79) rfl (.bool false) (fun _ => by kernel_rfl) ?_
            refine pl_skip (want_off 3 true rfl 79 rfl (by kernel_rfl)) (some 80) rfl ?_
            refine pl_skip (want_off 3 true rfl 79 rfl (by kernel_rfl)) (some 81) rfl ?_
            refine pl_skip (want_off 3 true rfl 79 rfl (by kernel_rfl)) (some 82) rfl ?_
            refine pl_skip (want_off 3 true rfl 79 rfl (by kernel_rfl)) (some 83) rfl ?_
            refine pl_skip (want_off 3 true rfl 79 rfl (by kernel_rfl)) (some 84) rfl ?_
            refine pl_skip (want_und 8 false rfl 84 rfl (by kernel_rfl)) (some 85) rfl ?_
            refine pl_skip (want_und 8 false rfl 84 rfl (by kernel_rfl)) (some 86) rfl ?_
            refine pl_skip (want_und 8 false rfl 84 rfl (by kernel_rfl)) (some 87) rfl ?_
            refine pl_skip (want_off 3 true rfl 79 rfl (by kernel_rfl)) (some 88) rfl ?_
            refine pl_val (want_no rfl) (some 89) rfl (.bool false) (fun _ => by kernel_rfl) ?_
            refine pl_nil ?_
            refine au_then ?_
            refine wp_cond_false (by kernel_rfl) ?_
            refine wp_skip ?_
            refine au_then ?_
            refine wp_seq ?_
            refine rg_tail M 26 (by kernel_rfl) (by kernel_rfl) ?_
            simp only [List.take_succ_cons, List.take_zero]
            refine k_load M (want_no rfl) (some 90) rfl 39 _ rfl 3 g4 0 (by kernel_rfl) 4 39 (ls [.bool (v), .int .u64 (kH v h (md m v)), .int .u64 (kL v l (md m v) (wdt v)), .int .u8 (md m v)]) rfl 4 (ls [.bool (v), .int .u64 (kH v h (md m v)), .int .u64 (kL v l (md m v) (wdt v)), .int .u8 (md m v)]) (fun j _ => by rw [Nat.zero_add]) (by decide) _ Tryz.underlying39 rfl inz39 ?_
            refine k_load M (want_no rfl) (some 91) rfl 24 _ rfl 1 g2 0 (by kernel_rfl) 3 24 (ls [.bool (v), .int .u64 h', .int .u64 l']) rfl 3 (ls [.bool (v), .int .u64 h', .int .u64 l']) (fun j _ => by rw [Nat.zero_add]) (by decide) _ Tryz.underlying24 rfl inz24 ?_
            refine k_call M (want_no rfl) (some 92) rfl 28 #[.agg (av 4 (ls [.bool (v), .int .u64 (kH v h (md m v)), .int .u64 (kL v l (md m v) (wdt v)), .int .u8 (md m v)])), .agg (av 3 (ls [.bool (v), .int .u64 h', .int .u64 l']))] (.bool false) (fun _ => by kernel_rfl) (fun w M => call_val (c_Holds v (kH v h (md m v)) (kL v l (md m v) (wdt v)) (md m v) (by omega) (by omega) v h' l' w M.laid) (congrArg Value.bool c4)) ?_
            refine k_load M (want_no rfl) (some 93) rfl 39 _ rfl 4 g5 0 (by kernel_rfl) 4 39 (ls [.bool (v), .int .u64 (kH v h' (md m v)), .int .u64 (kL v l' (md m v) (wdt v)), .int .u8 (md m v)]) rfl 4 (ls [.bool (v), .int .u64 (kH v h' (md m v)), .int .u64 (kL v l' (md m v) (wdt v)), .int .u8 (md m v)]) (fun j _ => by rw [Nat.zero_add]) (by decide) _ Tryz.underlying39 rfl inz39 ?_
            refine k_load M (want_no rfl) (some 94) rfl 39 _ rfl 3 g4 0 (by kernel_rfl) 4 39 (ls [.bool (v), .int .u64 (kH v h (md m v)), .int .u64 (kL v l (md m v) (wdt v)), .int .u8 (md m v)]) rfl 4 (ls [.bool (v), .int .u64 (kH v h (md m v)), .int .u64 (kL v l (md m v) (wdt v)), .int .u8 (md m v)]) (fun j _ => by rw [Nat.zero_add]) (by decide) _ Tryz.underlying39 rfl inz39 ?_
            refine k_val (want_no rfl) (some 95) rfl (.bool false) (fun w => (eql39 v v (kH v h' (md m v)) (kH v h (md m v)) (kL v l' (md m v) (wdt v)) (kL v l (md m v) (wdt v)) (md m v) (md m v) _ _ rfl (by kernel_rfl) (by kernel_rfl) w).trans (by rw [hO_other v h l h0 h1 l0 l1 hma h' l' p0 p1 k0 k1 hmb (md n v) (md m v) (by omega) (by omega) (by omega), c4])) ?_
            refine k_val (want_no rfl) (some 96) rfl (.bool true) (fun _ => by kernel_rfl) ?_
            refine k_val (want_no rfl) (some 97) rfl (.bool true) (fun _ => by kernel_rfl) ?_
            refine k_load M (want_on 7 true rfl 97 rfl (by kernel_rfl)) (some 98) rfl 24 _ rfl 0 g1 0 (by kernel_rfl) 3 24 (ls [.bool (v), .int .u64 h, .int .u64 l]) rfl 3 (ls [.bool (v), .int .u64 h, .int .u64 l]) (fun j _ => by rw [Nat.zero_add]) (by decide) _ Tryz.underlying24 rfl inz24 ?_
            refine k_load M (want_on 7 true rfl 97 rfl (by kernel_rfl)) (some 99) rfl 24 _ rfl 1 g2 0 (by kernel_rfl) 3 24 (ls [.bool (v), .int .u64 h', .int .u64 l']) rfl 3 (ls [.bool (v), .int .u64 h', .int .u64 l']) (fun j _ => by rw [Nat.zero_add]) (by decide) _ Tryz.underlying24 rfl inz24 ?_
            by_cases c5 : v = v ∧ h = h' ∧ l = l'
            · skip
              refine k_val (want_on 7 true rfl 97 rfl (by kernel_rfl)) (some 100) rfl (.bool true) (fun w => (eql24 v v h h' l l' _ _ rfl (by kernel_rfl) (by kernel_rfl) w).trans (by rw [decide_eq_true c5])) ?_
              refine k_load M (want_on 7 true rfl 97 rfl (by kernel_rfl)) (some 101) rfl 24 _ rfl 0 g1 0 (by kernel_rfl) 3 24 (ls [.bool (v), .int .u64 h, .int .u64 l]) rfl 3 (ls [.bool (v), .int .u64 h, .int .u64 l]) (fun j _ => by rw [Nat.zero_add]) (by decide) _ Tryz.underlying24 rfl inz24 ?_
              refine k_load M (want_on 7 true rfl 97 rfl (by kernel_rfl)) (some 102) rfl 24 _ rfl 1 g2 0 (by kernel_rfl) 3 24 (ls [.bool (v), .int .u64 h', .int .u64 l']) rfl 3 (ls [.bool (v), .int .u64 h', .int .u64 l']) (fun j _ => by rw [Nat.zero_add]) (by decide) _ Tryz.underlying24 rfl inz24 ?_
              refine k_call M (want_on 7 true rfl 97 rfl (by kernel_rfl)) (some 103) rfl 30 #[.agg (av 3 (ls [.bool (v), .int .u64 h, .int .u64 l])), .agg (av 3 (ls [.bool (v), .int .u64 h', .int .u64 l']))] (.bool false) (fun _ => by kernel_rfl) (fun w M => call_val (c_Less v h l v h' l' w M.laid) (congrArg Value.bool (lS_no (decide_eq_true c5) (lS_anti v h l h' l')).1)) ?_
              refine k_val (want_on 7 true rfl 97 rfl (by kernel_rfl)) (some 104) rfl (.bool true) (fun _ => by kernel_rfl) ?_
              refine k_val (want_on 7 true rfl 97 rfl (by kernel_rfl)) (some 105) rfl (.bool true) (fun _ => by kernel_rfl) ?_
              refine k_load M (want_on 15 true rfl 105 rfl (by kernel_rfl)) (some 106) rfl 24 _ rfl 1 g2 0 (by kernel_rfl) 3 24 (ls [.bool (v), .int .u64 h', .int .u64 l']) rfl 3 (ls [.bool (v), .int .u64 h', .int .u64 l']) (fun j _ => by rw [Nat.zero_add]) (by decide) _ Tryz.underlying24 rfl inz24 ?_
              refine k_load M (want_on 15 true rfl 105 rfl (by kernel_rfl)) (some 107) rfl 24 _ rfl 0 g1 0 (by kernel_rfl) 3 24 (ls [.bool (v), .int .u64 h, .int .u64 l]) rfl 3 (ls [.bool (v), .int .u64 h, .int .u64 l]) (fun j _ => by rw [Nat.zero_add]) (by decide) _ Tryz.underlying24 rfl inz24 ?_
              refine k_call M (want_on 15 true rfl 105 rfl (by kernel_rfl)) (some 108) rfl 30 #[.agg (av 3 (ls [.bool (v), .int .u64 h', .int .u64 l'])), .agg (av 3 (ls [.bool (v), .int .u64 h, .int .u64 l]))] (.bool false) (fun _ => by kernel_rfl) (fun w M => call_val (c_Less v h' l' v h l w M.laid) (congrArg Value.bool (lS_no (decide_eq_true c5) (lS_anti v h l h' l')).2)) ?_
              refine k_val (want_on 15 true rfl 105 rfl (by kernel_rfl)) (some 109) rfl (.bool true) (fun _ => by kernel_rfl) ?_
              refine k_val (want_on 7 true rfl 97 rfl (by kernel_rfl)) (some 110) rfl (.bool true) (fun _ => by kernel_rfl) ?_
              refine k_val (want_on 7 true rfl 97 rfl (by kernel_rfl)) (some 111) rfl (.bool true) (fun _ => by kernel_rfl) ?_
              refine k_val (want_no rfl) (some 112) rfl (.bool true) (fun _ => by kernel_rfl) ?_
              refine k_val (want_no rfl) (some 113) rfl (.bool true) (fun _ => by kernel_rfl) ?_
              refine k_call M (want_on 23 true rfl 113 rfl (by kernel_rfl)) (some 114) rfl 9 #[] (.bool true) (fun _ => by kernel_rfl) (fun w M => c_works w M.laid) ?_
              refine k_val (want_no rfl) (some 115) rfl (.bool true) (fun _ => by kernel_rfl) ?_
              refine kl_nil ?_
              intro u15 M
              replace M : Mem ⟨w, []⟩ [⟨g1, .cells (av 3 (ls [.bool (v), .int .u64 h, .int .u64 l])) 24⟩, ⟨g2, .cells (av 3 (ls [.bool (v), .int .u64 h', .int .u64 l'])) 24⟩, ⟨g3, .cells (av 4 (ls [.bool (v), .int .u64 (kH v h (md n v)), .int .u64 (kL v l (md n v) (wdt v)), .int .u8 (md n v)])) 39⟩, ⟨g4, .cells (av 4 (ls [.bool (v), .int .u64 (kH v h (md m v)), .int .u64 (kL v l (md m v) (wdt v)), .int .u8 (md m v)])) 39⟩, ⟨g5, .cells (av 4 (ls [.bool (v), .int .u64 (kH v h' (md m v)), .int .u64 (kL v l' (md m v) (wdt v)), .int .u8 (md m v)])) 39⟩] u15 := M
              refine pl_val (want_no rfl) (some 8) rfl (.bool true) (fun _ => by kernel_rfl) ?_
              refine pl_nil ?_
              refine au_then ?_
              refine wp_ret ?_
              exact bodyPost_ret (v := .bool true) (results_tmp1 Tryz.results7 _ _ _ (by kernel_rfl)) (by kernel_rfl) ⟨rfl, below_grown M.old⟩
            · skip
              refine k_val (want_on 7 true rfl 97 rfl (by kernel_rfl)) (some 100) rfl (.bool false) (fun w => (eql24 v v h h' l l' _ _ rfl (by kernel_rfl) (by kernel_rfl) w).trans (by rw [decide_eq_false c5])) ?_
              refine k_load M (want_on 7 true rfl 97 rfl (by kernel_rfl)) (some 101) rfl 24 _ rfl 0 g1 0 (by kernel_rfl) 3 24 (ls [.bool (v), .int .u64 h, .int .u64 l]) rfl 3 (ls [.bool (v), .int .u64 h, .int .u64 l]) (fun j _ => by rw [Nat.zero_add]) (by decide) _ Tryz.underlying24 rfl inz24 ?_
              refine k_load M (want_on 7 true rfl 97 rfl (by kernel_rfl)) (some 102) rfl 24 _ rfl 1 g2 0 (by kernel_rfl) 3 24 (ls [.bool (v), .int .u64 h', .int .u64 l']) rfl 3 (ls [.bool (v), .int .u64 h', .int .u64 l']) (fun j _ => by rw [Nat.zero_add]) (by decide) _ Tryz.underlying24 rfl inz24 ?_
              rcases Bool.eq_false_or_eq_true (lS v h l v h' l') with c6 | c6
              · skip
                refine k_call M (want_on 7 true rfl 97 rfl (by kernel_rfl)) (some 103) rfl 30 #[.agg (av 3 (ls [.bool (v), .int .u64 h, .int .u64 l])), .agg (av 3 (ls [.bool (v), .int .u64 h', .int .u64 l']))] (.bool true) (fun _ => by kernel_rfl) (fun w M => call_val (c_Less v h l v h' l' w M.laid) (congrArg Value.bool c6)) ?_
                refine k_val (want_on 7 true rfl 97 rfl (by kernel_rfl)) (some 104) rfl (.bool false) (fun _ => by kernel_rfl) ?_
                refine k_val (want_on 7 true rfl 97 rfl (by kernel_rfl)) (some 105) rfl (.bool false) (fun _ => by kernel_rfl) ?_
                refine k_skip (want_off 15 true rfl 105 rfl (by kernel_rfl)) (some 106) rfl ?_
                refine k_skip (want_off 15 true rfl 105 rfl (by kernel_rfl)) (some 107) rfl ?_
                refine k_skip (want_off 15 true rfl 105 rfl (by kernel_rfl)) (some 108) rfl ?_
                refine k_skip (want_off 15 true rfl 105 rfl (by kernel_rfl)) (some 109) rfl ?_
                refine k_val (want_on 7 true rfl 97 rfl (by kernel_rfl)) (some 110) rfl (.bool false) (fun _ => by kernel_rfl) ?_
                refine k_val (want_on 7 true rfl 97 rfl (by kernel_rfl)) (some 111) rfl (.bool true) (fun _ => by kernel_rfl) ?_
                refine k_val (want_no rfl) (some 112) rfl (.bool true) (fun _ => by kernel_rfl) ?_
                refine k_val (want_no rfl) (some 113) rfl (.bool true) (fun _ => by kernel_rfl) ?_
                refine k_call M (want_on 23 true rfl 113 rfl (by kernel_rfl)) (some 114) rfl 9 #[] (.bool true) (fun _ => by kernel_rfl) (fun w M => c_works w M.laid) ?_
                refine k_val (want_no rfl) (some 115) rfl (.bool true) (fun _ => by kernel_rfl) ?_
                refine kl_nil ?_
                intro u15 M
                replace M : Mem ⟨w, []⟩ [⟨g1, .cells (av 3 (ls [.bool (v), .int .u64 h, .int .u64 l])) 24⟩, ⟨g2, .cells (av 3 (ls [.bool (v), .int .u64 h', .int .u64 l'])) 24⟩, ⟨g3, .cells (av 4 (ls [.bool (v), .int .u64 (kH v h (md n v)), .int .u64 (kL v l (md n v) (wdt v)), .int .u8 (md n v)])) 39⟩, ⟨g4, .cells (av 4 (ls [.bool (v), .int .u64 (kH v h (md m v)), .int .u64 (kL v l (md m v) (wdt v)), .int .u8 (md m v)])) 39⟩, ⟨g5, .cells (av 4 (ls [.bool (v), .int .u64 (kH v h' (md m v)), .int .u64 (kL v l' (md m v) (wdt v)), .int .u8 (md m v)])) 39⟩] u15 := M
                refine pl_val (want_no rfl) (some 8) rfl (.bool true) (fun _ => by kernel_rfl) ?_
                refine pl_nil ?_
                refine au_then ?_
                refine wp_ret ?_
                exact bodyPost_ret (v := .bool true) (results_tmp1 Tryz.results7 _ _ _ (by kernel_rfl)) (by kernel_rfl) ⟨rfl, below_grown M.old⟩
              · skip
                refine k_call M (want_on 7 true rfl 97 rfl (by kernel_rfl)) (some 103) rfl 30 #[.agg (av 3 (ls [.bool (v), .int .u64 h, .int .u64 l])), .agg (av 3 (ls [.bool (v), .int .u64 h', .int .u64 l']))] (.bool false) (fun _ => by kernel_rfl) (fun w M => call_val (c_Less v h l v h' l' w M.laid) (congrArg Value.bool c6)) ?_
                refine k_val (want_on 7 true rfl 97 rfl (by kernel_rfl)) (some 104) rfl (.bool true) (fun _ => by kernel_rfl) ?_
                refine k_val (want_on 7 true rfl 97 rfl (by kernel_rfl)) (some 105) rfl (.bool true) (fun _ => by kernel_rfl) ?_
                refine k_load M (want_on 15 true rfl 105 rfl (by kernel_rfl)) (some 106) rfl 24 _ rfl 1 g2 0 (by kernel_rfl) 3 24 (ls [.bool (v), .int .u64 h', .int .u64 l']) rfl 3 (ls [.bool (v), .int .u64 h', .int .u64 l']) (fun j _ => by rw [Nat.zero_add]) (by decide) _ Tryz.underlying24 rfl inz24 ?_
                refine k_load M (want_on 15 true rfl 105 rfl (by kernel_rfl)) (some 107) rfl 24 _ rfl 0 g1 0 (by kernel_rfl) 3 24 (ls [.bool (v), .int .u64 h, .int .u64 l]) rfl 3 (ls [.bool (v), .int .u64 h, .int .u64 l]) (fun j _ => by rw [Nat.zero_add]) (by decide) _ Tryz.underlying24 rfl inz24 ?_
                refine k_call M (want_on 15 true rfl 105 rfl (by kernel_rfl)) (some 108) rfl 30 #[.agg (av 3 (ls [.bool (v), .int .u64 h', .int .u64 l'])), .agg (av 3 (ls [.bool (v), .int .u64 h, .int .u64 l]))] (.bool true) (fun _ => by kernel_rfl) (fun w M => call_val (c_Less v h' l' v h l w M.laid) (congrArg Value.bool (lS_yes (decide_eq_false c5) (lS_anti v h l h' l') c6))) ?_
                refine k_val (want_on 15 true rfl 105 rfl (by kernel_rfl)) (some 109) rfl (.bool false) (fun _ => by kernel_rfl) ?_
                refine k_val (want_on 7 true rfl 97 rfl (by kernel_rfl)) (some 110) rfl (.bool false) (fun _ => by kernel_rfl) ?_
                refine k_val (want_on 7 true rfl 97 rfl (by kernel_rfl)) (some 111) rfl (.bool true) (fun _ => by kernel_rfl) ?_
                refine k_val (want_no rfl) (some 112) rfl (.bool true) (fun _ => by kernel_rfl) ?_
                refine k_val (want_no rfl) (some 113) rfl (.bool true) (fun _ => by kernel_rfl) ?_
                refine k_call M (want_on 23 true rfl 113 rfl (by kernel_rfl)) (some 114) rfl 9 #[] (.bool true) (fun _ => by kernel_rfl) (fun w M => c_works w M.laid) ?_
                refine k_val (want_no rfl) (some 115) rfl (.bool true) (fun _ => by kernel_rfl) ?_
                refine kl_nil ?_
                intro u15 M
                replace M : Mem ⟨w, []⟩ [⟨g1, .cells (av 3 (ls [.bool (v), .int .u64 h, .int .u64 l])) 24⟩, ⟨g2, .cells (av 3 (ls [.bool (v), .int .u64 h', .int .u64 l'])) 24⟩, ⟨g3, .cells (av 4 (ls [.bool (v), .int .u64 (kH v h (md n v)), .int .u64 (kL v l (md n v) (wdt v)), .int .u8 (md n v)])) 39⟩, ⟨g4, .cells (av 4 (ls [.bool (v), .int .u64 (kH v h (md m v)), .int .u64 (kL v l (md m v) (wdt v)), .int .u8 (md m v)])) 39⟩, ⟨g5, .cells (av 4 (ls [.bool (v), .int .u64 (kH v h' (md m v)), .int .u64 (kL v l' (md m v) (wdt v)), .int .u8 (md m v)])) 39⟩] u15 := M
                refine pl_val (want_no rfl) (some 8) rfl (.bool true) (fun _ => by kernel_rfl) ?_
                refine pl_nil ?_
                refine au_then ?_
                refine wp_ret ?_
                exact bodyPost_ret (v := .bool true) (results_tmp1 Tryz.results7 _ _ _ (by kernel_rfl)) (by kernel_rfl) ⟨rfl, below_grown M.old⟩
        · skip
          refine pl_val (want_no rfl) (some 41) rfl (.bool false) (fun w => Eq.trans (b := .ok (.value (.bool (decide ((md n v) < (md m v))))) w) (by kernel_rfl) (by rw [decide_eq_false (c3)])) ?_
          refine pl_nil ?_
          refine au_then ?_
          refine wp_cond_false (by kernel_rfl) ?_
          refine wp_skip ?_
          refine au_then ?_
          refine wp_seq ?_
          refine rg_allocs M 12 [(10, fun g => .pointer (some ⟨g, 0, none⟩), .cells (av 4 (ls [.bool false, .int .u64 0, .int .u64 0, .int .u8 0])) 39), (11, fun g => .pointer (some ⟨g, 0, none⟩), .cells (av 4 (ls [.bool false, .int .u64 0, .int .u64 0, .int .u8 0])) 39), (12, fun g => .pointer (some ⟨g, 0, none⟩), .cells (av 4 (ls [.bool false, .int .u64 0, .int .u64 0, .int .u8 0])) 39)] (by kernel_rfl) (by kernel_rfl) (⟨rfl, rfl, fun _ _ => by kernel_rfl, ⟨rfl, rfl, fun _ _ => by kernel_rfl, ⟨rfl, rfl, fun _ _ => by kernel_rfl, trivial⟩⟩⟩) (by decide) ?_
          simp only [List.take_succ_cons, List.take_zero]
          refine k_load M (want_no rfl) (some 44) rfl 24 _ rfl 0 g1 0 (by kernel_rfl) 3 24 (ls [.bool (v), .int .u64 h, .int .u64 l]) rfl 3 (ls [.bool (v), .int .u64 h, .int .u64 l]) (fun j _ => by rw [Nat.zero_add]) (by decide) _ Tryz.underlying24 rfl inz24 ?_
          refine k_val (want_no rfl) (some 45) rfl (.int .u8 (md m v)) (fun _ => by kernel_rfl) ?_
          refine k_val (want_no rfl) (some 46) rfl (.int .u8 (wdt v)) (fun w => Eq.trans (b := .ok (.value (.int .u8 128)) w) (by kernel_rfl) (by rw [c0]; rfl)) ?_
          refine k_call M (want_no rfl) (some 47) rfl 32 #[.agg (av 3 (ls [.bool (v), .int .u64 h, .int .u64 l])), .int .u8 (md m v), .int .u8 (wdt v)] (.agg (av 4 (ls [.bool (v), .int .u64 (kH v h (md m v)), .int .u64 (kL v l (md m v) (wdt v)), .int .u8 (md m v)]))) (fun _ => by kernel_rfl) (fun w M => c_lcut v h l (md m v) (wdt v) (by omega) (by omega) rfl w M.laid) ?_
          refine k_load M (want_no rfl) (some 48) rfl 24 _ rfl 0 g1 0 (by kernel_rfl) 3 24 (ls [.bool (v), .int .u64 h, .int .u64 l]) rfl 3 (ls [.bool (v), .int .u64 h, .int .u64 l]) (fun j _ => by rw [Nat.zero_add]) (by decide) _ Tryz.underlying24 rfl inz24 ?_
          refine k_val (want_no rfl) (some 49) rfl (.int .u8 (md n v)) (fun _ => by kernel_rfl) ?_
          refine k_val (want_no rfl) (some 50) rfl (.int .u8 (wdt v)) (fun w => Eq.trans (b := .ok (.value (.int .u8 128)) w) (by kernel_rfl) (by rw [c0]; rfl)) ?_
          refine k_call M (want_no rfl) (some 51) rfl 32 #[.agg (av 3 (ls [.bool (v), .int .u64 h, .int .u64 l])), .int .u8 (md n v), .int .u8 (wdt v)] (.agg (av 4 (ls [.bool (v), .int .u64 (kH v h (md n v)), .int .u64 (kL v l (md n v) (wdt v)), .int .u8 (md n v)]))) (fun _ => by kernel_rfl) (fun w M => c_lcut v h l (md n v) (wdt v) (by omega) (by omega) rfl w M.laid) ?_
          refine k_load M (want_no rfl) (some 52) rfl 24 _ rfl 1 g2 0 (by kernel_rfl) 3 24 (ls [.bool (v), .int .u64 h', .int .u64 l']) rfl 3 (ls [.bool (v), .int .u64 h', .int .u64 l']) (fun j _ => by rw [Nat.zero_add]) (by decide) _ Tryz.underlying24 rfl inz24 ?_
          refine k_val (want_no rfl) (some 53) rfl (.int .u8 (md n v)) (fun _ => by kernel_rfl) ?_
          refine k_val (want_no rfl) (some 54) rfl (.int .u8 (wdt v)) (fun w => Eq.trans (b := .ok (.value (.int .u8 128)) w) (by kernel_rfl) (by rw [c0]; rfl)) ?_
          refine k_call M (want_no rfl) (some 55) rfl 32 #[.agg (av 3 (ls [.bool (v), .int .u64 h', .int .u64 l'])), .int .u8 (md n v), .int .u8 (wdt v)] (.agg (av 4 (ls [.bool (v), .int .u64 (kH v h' (md n v)), .int .u64 (kL v l' (md n v) (wdt v)), .int .u8 (md n v)]))) (fun _ => by kernel_rfl) (fun w M => c_lcut v h' l' (md n v) (wdt v) (by omega) (by omega) rfl w M.laid) ?_
          refine kl_nil ?_
          intro u6 g3 g4 g5 M
          replace M : Mem ⟨w, []⟩ [⟨g1, .cells (av 3 (ls [.bool (v), .int .u64 h, .int .u64 l])) 24⟩, ⟨g2, .cells (av 3 (ls [.bool (v), .int .u64 h', .int .u64 l'])) 24⟩, ⟨g3, .cells (av 4 (ls [.bool false, .int .u64 0, .int .u64 0, .int .u8 0])) 39⟩, ⟨g4, .cells (av 4 (ls [.bool false, .int .u64 0, .int .u64 0, .int .u8 0])) 39⟩, ⟨g5, .cells (av 4 (ls [.bool false, .int .u64 0, .int .u64 0, .int .u8 0])) 39⟩] u6 := M
          refine pl_put M (want_no rfl) rfl 39 _ _ rfl 2 g3 0 (by kernel_rfl) 4 39 (ls [.bool false, .int .u64 0, .int .u64 0, .int .u8 0]) rfl 4 (ls [.bool (v), .int .u64 (kH v h (md m v)), .int .u64 (kL v l (md m v) (wdt v)), .int .u8 (md m v)]) (ls [.bool (v), .int .u64 (kH v h (md m v)), .int .u64 (kL v l (md m v) (wdt v)), .int .u8 (md m v)]) (by kernel_rfl) inz39 (by decide) (one_ls _ rfl) (fun j hj => by rw [if_pos (by omega), Nat.sub_zero]) ?_
          intro u7 M
          replace M : Mem ⟨w, []⟩ [⟨g1, .cells (av 3 (ls [.bool (v), .int .u64 h, .int .u64 l])) 24⟩, ⟨g2, .cells (av 3 (ls [.bool (v), .int .u64 h', .int .u64 l'])) 24⟩, ⟨g3, .cells (av 4 (ls [.bool (v), .int .u64 (kH v h (md m v)), .int .u64 (kL v l (md m v) (wdt v)), .int .u8 (md m v)])) 39⟩, ⟨g4, .cells (av 4 (ls [.bool false, .int .u64 0, .int .u64 0, .int .u8 0])) 39⟩, ⟨g5, .cells (av 4 (ls [.bool false, .int .u64 0, .int .u64 0, .int .u8 0])) 39⟩] u7 := M
          refine pl_put M (want_no rfl) rfl 39 _ _ rfl 3 g4 0 (by kernel_rfl) 4 39 (ls [.bool false, .int .u64 0, .int .u64 0, .int .u8 0]) rfl 4 (ls [.bool (v), .int .u64 (kH v h (md n v)), .int .u64 (kL v l (md n v) (wdt v)), .int .u8 (md n v)]) (ls [.bool (v), .int .u64 (kH v h (md n v)), .int .u64 (kL v l (md n v) (wdt v)), .int .u8 (md n v)]) (by kernel_rfl) inz39 (by decide) (one_ls _ rfl) (fun j hj => by rw [if_pos (by omega), Nat.sub_zero]) ?_
          intro u8 M
          replace M : Mem ⟨w, []⟩ [⟨g1, .cells (av 3 (ls [.bool (v), .int .u64 h, .int .u64 l])) 24⟩, ⟨g2, .cells (av 3 (ls [.bool (v), .int .u64 h', .int .u64 l'])) 24⟩, ⟨g3, .cells (av 4 (ls [.bool (v), .int .u64 (kH v h (md m v)), .int .u64 (kL v l (md m v) (wdt v)), .int .u8 (md m v)])) 39⟩, ⟨g4, .cells (av 4 (ls [.bool (v), .int .u64 (kH v h (md n v)), .int .u64 (kL v l (md n v) (wdt v)), .int .u8 (md n v)])) 39⟩, ⟨g5, .cells (av 4 (ls [.bool false, .int .u64 0, .int .u64 0, .int .u8 0])) 39⟩] u8 := M
          refine pl_put M (want_no rfl) rfl 39 _ _ rfl 4 g5 0 (by kernel_rfl) 4 39 (ls [.bool false, .int .u64 0, .int .u64 0, .int .u8 0]) rfl 4 (ls [.bool (v), .int .u64 (kH v h' (md n v)), .int .u64 (kL v l' (md n v) (wdt v)), .int .u8 (md n v)]) (ls [.bool (v), .int .u64 (kH v h' (md n v)), .int .u64 (kL v l' (md n v) (wdt v)), .int .u8 (md n v)]) (by kernel_rfl) inz39 (by decide) (one_ls _ rfl) (fun j hj => by rw [if_pos (by omega), Nat.sub_zero]) ?_
          intro u9 M
          replace M : Mem ⟨w, []⟩ [⟨g1, .cells (av 3 (ls [.bool (v), .int .u64 h, .int .u64 l])) 24⟩, ⟨g2, .cells (av 3 (ls [.bool (v), .int .u64 h', .int .u64 l'])) 24⟩, ⟨g3, .cells (av 4 (ls [.bool (v), .int .u64 (kH v h (md m v)), .int .u64 (kL v l (md m v) (wdt v)), .int .u8 (md m v)])) 39⟩, ⟨g4, .cells (av 4 (ls [.bool (v), .int .u64 (kH v h (md n v)), .int .u64 (kL v l (md n v) (wdt v)), .int .u8 (md n v)])) 39⟩, ⟨g5, .cells (av 4 (ls [.bool (v), .int .u64 (kH v h' (md n v)), .int .u64 (kL v l' (md n v) (wdt v)), .int .u8 (md n v)])) 39⟩] u9 := M
          refine pl_nil ?_
          refine au_then ?_
          refine wp_seq ?_
          refine wp_seq ?_
          refine rg_lit ?_
          refine pl_load M (want_no rfl) (some 56) rfl 39 _ rfl 2 g3 0 (by kernel_rfl) 4 39 (ls [.bool (v), .int .u64 (kH v h (md m v)), .int .u64 (kL v l (md m v) (wdt v)), .int .u8 (md m v)]) rfl 4 (ls [.bool (v), .int .u64 (kH v h (md m v)), .int .u64 (kL v l (md m v) (wdt v)), .int .u8 (md m v)]) (fun j _ => by rw [Nat.zero_add]) (by decide) _ Tryz.underlying39 rfl inz39 ?_
          refine pl_call M (want_no rfl) (some 57) rfl 26 #[.agg (av 4 (ls [.bool (v), .int .u64 (kH v h (md m v)), .int .u64 (kL v l (md m v) (wdt v)), .int .u8 (md m v)]))] (.bool true) (fun _ => by kernel_rfl) (fun w M => call_val (c_MayPrefix v (kH v h (md m v)) (kL v l (md m v) (wdt v)) (md m v) (by omega) (by omega) w M.laid) (congrArg Value.bool (mP_cut v h l (md m v) h0 h1 l0 l1 hma (by omega) (by omega)))) ?_
          intro u10 M
          refine pl_val (want_no rfl) (some 58) rfl (.bool false) (fun _ => by kernel_rfl) ?_
          refine pl_val (want_no rfl) (some 59) rfl (.bool false) (fun _ => by kernel_rfl) ?_
          refine pl_load M (want_on 3 false rfl 59 rfl (by kernel_rfl)) (some 60) rfl 39 _ rfl 3 g4 0 (by kernel_rfl) 4 39 (ls [.bool (v), .int .u64 (kH v h (md n v)), .int .u64 (kL v l (md n v) (wdt v)), .int .u8 (md n v)]) rfl 4 (ls [.bool (v), .int .u64 (kH v h (md n v)), .int .u64 (kL v l (md n v) (wdt v)), .int .u8 (md n v)]) (fun j _ => by rw [Nat.zero_add]) (by decide) _ Tryz.underlying39 rfl inz39 ?_
          refine pl_call M (want_on 3 false rfl 59 rfl (by kernel_rfl)) (some 61) rfl 26 #[.agg (av 4 (ls [.bool (v), .int .u64 (kH v h (md n v)), .int .u64 (kL v l (md n v) (wdt v)), .int .u8 (md n v)]))] (.bool true) (fun _ => by kernel_rfl) (fun w M => call_val (c_MayPrefix v (kH v h (md n v)) (kL v l (md n v) (wdt v)) (md n v) (by omega) (by omega) w M.laid) (congrArg Value.bool (mP_cut v h l (md n v) h0 h1 l0 l1 hma (by omega) (by omega)))) ?_
          intro u11 M
          refine pl_val (want_on 3 false rfl 59 rfl (by kernel_rfl)) (some 62) rfl (.bool false) (fun _ => by kernel_rfl) ?_
          refine pl_val (want_no rfl) (some 63) rfl (.bool false) (fun _ => by kernel_rfl) ?_
          refine pl_val (want_no rfl) (some 64) rfl (.bool false) (fun _ => by kernel_rfl) ?_
          refine pl_load M (want_on 8 false rfl 64 rfl (by kernel_rfl)) (some 65) rfl 39 _ rfl 2 g3 0 (by kernel_rfl) 4 39 (ls [.bool (v), .int .u64 (kH v h (md m v)), .int .u64 (kL v l (md m v) (wdt v)), .int .u8 (md m v)]) rfl 4 (ls [.bool (v), .int .u64 (kH v h (md m v)), .int .u64 (kL v l (md m v) (wdt v)), .int .u8 (md m v)]) (fun j _ => by rw [Nat.zero_add]) (by decide) _ Tryz.underlying39 rfl inz39 ?_
          refine pl_load M (want_on 8 false rfl 64 rfl (by kernel_rfl)) (some 66) rfl 24 _ rfl 0 g1 0 (by kernel_rfl) 3 24 (ls [.bool (v), .int .u64 h, .int .u64 l]) rfl 3 (ls [.bool (v), .int .u64 h, .int .u64 l]) (fun j _ => by rw [Nat.zero_add]) (by decide) _ Tryz.underlying24 rfl inz24 ?_
          refine pl_call M (want_on 8 false rfl 64 rfl (by kernel_rfl)) (some 67) rfl 28 #[.agg (av 4 (ls [.bool (v), .int .u64 (kH v h (md m v)), .int .u64 (kL v l (md m v) (wdt v)), .int .u8 (md m v)])), .agg (av 3 (ls [.bool (v), .int .u64 h, .int .u64 l]))] (.bool true) (fun _ => by kernel_rfl) (fun w M => call_val (c_Holds v (kH v h (md m v)) (kL v l (md m v) (wdt v)) (md m v) (by omega) (by omega) v h l w M.laid) (congrArg Value.bool (hO_own v h l (md m v) h0 h1 l0 l1 hma (by omega) (by omega)))) ?_
          intro u12 M
          refine pl_val (want_on 8 false rfl 64 rfl (by kernel_rfl)) (some 68) rfl (.bool false) (fun _ => by kernel_rfl) ?_
          refine pl_val (want_no rfl) (some 69) rfl (.bool false) (fun _ => by kernel_rfl) ?_
          refine pl_val (want_no rfl) (some 70) rfl (.bool false) (fun _ => by kernel_rfl) ?_
          refine pl_load M (want_on 14 false rfl 70 rfl (by kernel_rfl)) (some 71) rfl 39 _ rfl 3 g4 0 (by kernel_rfl) 4 39 (ls [.bool (v), .int .u64 (kH v h (md n v)), .int .u64 (kL v l (md n v) (wdt v)), .int .u8 (md n v)]) rfl 4 (ls [.bool (v), .int .u64 (kH v h (md n v)), .int .u64 (kL v l (md n v) (wdt v)), .int .u8 (md n v)]) (fun j _ => by rw [Nat.zero_add]) (by decide) _ Tryz.underlying39 rfl inz39 ?_
          refine pl_load M (want_on 14 false rfl 70 rfl (by kernel_rfl)) (some 72) rfl 24 _ rfl 0 g1 0 (by kernel_rfl) 3 24 (ls [.bool (v), .int .u64 h, .int .u64 l]) rfl 3 (ls [.bool (v), .int .u64 h, .int .u64 l]) (fun j _ => by rw [Nat.zero_add]) (by decide) _ Tryz.underlying24 rfl inz24 ?_
          refine pl_call M (want_on 14 false rfl 70 rfl (by kernel_rfl)) (some 73) rfl 28 #[.agg (av 4 (ls [.bool (v), .int .u64 (kH v h (md n v)), .int .u64 (kL v l (md n v) (wdt v)), .int .u8 (md n v)])), .agg (av 3 (ls [.bool (v), .int .u64 h, .int .u64 l]))] (.bool true) (fun _ => by kernel_rfl) (fun w M => call_val (c_Holds v (kH v h (md n v)) (kL v l (md n v) (wdt v)) (md n v) (by omega) (by omega) v h l w M.laid) (congrArg Value.bool (hO_own v h l (md n v) h0 h1 l0 l1 hma (by omega) (by omega)))) ?_
          intro u13 M
          refine pl_val (want_on 14 false rfl 70 rfl (by kernel_rfl)) (some 74) rfl (.bool false) (fun _ => by kernel_rfl) ?_
          refine pl_val (want_no rfl) (some 75) rfl (.bool false) (fun _ => by kernel_rfl) ?_
          refine pl_nil ?_
          refine au_then ?_
          refine wp_cond_false (by kernel_rfl) ?_
          refine wp_skip ?_
          refine au_then ?_
          refine wp_seq ?_
          refine wp_seq ?_
          refine rg_lit ?_
          refine pl_load M (want_no rfl) (some 76) rfl 39 _ rfl 3 g4 0 (by kernel_rfl) 4 39 (ls [.bool (v), .int .u64 (kH v h (md n v)), .int .u64 (kL v l (md n v) (wdt v)), .int .u8 (md n v)]) rfl 4 (ls [.bool (v), .int .u64 (kH v h (md n v)), .int .u64 (kL v l (md n v) (wdt v)), .int .u8 (md n v)]) (fun j _ => by rw [Nat.zero_add]) (by decide) _ Tryz.underlying39 rfl inz39 ?_
          refine pl_load M (want_no rfl) (some 77) rfl 24 _ rfl 1 g2 0 (by kernel_rfl) 3 24 (ls [.bool (v), .int .u64 h', .int .u64 l']) rfl 3 (ls [.bool (v), .int .u64 h', .int .u64 l']) (fun j _ => by rw [Nat.zero_add]) (by decide) _ Tryz.underlying24 rfl inz24 ?_
          rcases Bool.eq_false_or_eq_true (hO v (kH v h (md n v)) (kL v l (md n v) (wdt v)) (md n v) v h' l') with c4 | c4
          · skip
            refine pl_call M (want_no rfl) (some 78) rfl 28 #[.agg (av 4 (ls [.bool (v), .int .u64 (kH v h (md n v)), .int .u64 (kL v l (md n v) (wdt v)), .int .u8 (md n v)])), .agg (av 3 (ls [.bool (v), .int .u64 h', .int .u64 l']))] (.bool true) (fun _ => by kernel_rfl) (fun w M => call_val (c_Holds v (kH v h (md n v)) (kL v l (md n v) (wdt v)) (md n v) (by omega) (by omega) v h' l' w M.laid) (congrArg Value.bool c4)) ?_
            intro u14 M
            refine pl_val (want_no rfl) (some 79) rfl (.bool true) (fun _ => by kernel_rfl) ?_
            refine pl_load M (want_on 3 true rfl 79 rfl (by kernel_rfl)) (some 80) rfl 39 _ rfl 2 g3 0 (by kernel_rfl) 4 39 (ls [.bool (v), .int .u64 (kH v h (md m v)), .int .u64 (kL v l (md m v) (wdt v)), .int .u8 (md m v)]) rfl 4 (ls [.bool (v), .int .u64 (kH v h (md m v)), .int .u64 (kL v l (md m v) (wdt v)), .int .u8 (md m v)]) (fun j _ => by rw [Nat.zero_add]) (by decide) _ Tryz.underlying39 rfl inz39 ?_
            refine pl_load M (want_on 3 true rfl 79 rfl (by kernel_rfl)) (some 81) rfl 24 _ rfl 1 g2 0 (by kernel_rfl) 3 24 (ls [.bool (v), .int .u64 h', .int .u64 l']) rfl 3 (ls [.bool (v), .int .u64 h', .int .u64 l']) (fun j _ => by rw [Nat.zero_add]) (by decide) _ Tryz.underlying24 rfl inz24 ?_
            refine pl_call M (want_on 3 true rfl 79 rfl (by kernel_rfl)) (some 82) rfl 28 #[.agg (av 4 (ls [.bool (v), .int .u64 (kH v h (md m v)), .int .u64 (kL v l (md m v) (wdt v)), .int .u8 (md m v)])), .agg (av 3 (ls [.bool (v), .int .u64 h', .int .u64 l']))] (.bool true) (fun _ => by kernel_rfl) (fun w M => call_val (c_Holds v (kH v h (md m v)) (kL v l (md m v) (wdt v)) (md m v) (by omega) (by omega) v h' l' w M.laid) (congrArg Value.bool (hO_short v h l h0 h1 l0 l1 hma h' l' p0 p1 k0 k1 hmb (md m v) (md n v) (by omega) (by omega) (by omega) c4))) ?_
            intro u15 M
            refine pl_val (want_on 3 true rfl 79 rfl (by kernel_rfl)) (some 83) rfl (.bool false) (fun _ => by kernel_rfl) ?_
            refine pl_val (want_on 3 true rfl 79 rfl (by kernel_rfl)) (some 84) rfl (.bool false) (fun _ => by kernel_rfl) ?_
            refine pl_load M (want_on 8 false rfl 84 rfl (by kernel_rfl)) (some 85) rfl 39 _ rfl 4 g5 0 (by kernel_rfl) 4 39 (ls [.bool (v), .int .u64 (kH v h' (md n v)), .int .u64 (kL v l' (md n v) (wdt v)), .int .u8 (md n v)]) rfl 4 (ls [.bool (v), .int .u64 (kH v h' (md n v)), .int .u64 (kL v l' (md n v) (wdt v)), .int .u8 (md n v)]) (fun j _ => by rw [Nat.zero_add]) (by decide) _ Tryz.underlying39 rfl inz39 ?_
            refine pl_load M (want_on 8 false rfl 84 rfl (by kernel_rfl)) (some 86) rfl 39 _ rfl 3 g4 0 (by kernel_rfl) 4 39 (ls [.bool (v), .int .u64 (kH v h (md n v)), .int .u64 (kL v l (md n v) (wdt v)), .int .u8 (md n v)]) rfl 4 (ls [.bool (v), .int .u64 (kH v h (md n v)), .int .u64 (kL v l (md n v) (wdt v)), .int .u8 (md n v)]) (fun j _ => by rw [Nat.zero_add]) (by decide) _ Tryz.underlying39 rfl inz39 ?_
            refine pl_val (want_on 8 false rfl 84 rfl (by kernel_rfl)) (some 87) rfl (.bool false) (fun w => (neq39 v v (kH v h' (md n v)) (kH v h (md n v)) (kL v l' (md n v) (wdt v)) (kL v l (md n v) (wdt v)) (md n v) (md n v) _ _ rfl (by kernel_rfl) (by kernel_rfl) w).trans (by rw [hO_other v h l h0 h1 l0 l1 hma h' l' p0 p1 k0 k1 hmb (md m v) (md n v) (by omega) (by omega) (by omega), c4]; rfl)) ?_
            refine pl_val (want_on 3 true rfl 79 rfl (by kernel_rfl)) (some 88) rfl (.bool false) (fun _ => by kernel_rfl) ?_
            refine pl_val (want_no rfl) (some 89) rfl (.bool false) (fun _ => by kernel_rfl) ?_
            refine pl_nil ?_
            refine au_then ?_
            refine wp_cond_false (by kernel_rfl) ?_
            refine wp_skip ?_
            refine au_then ?_
            refine wp_seq ?_
            refine rg_tail M 26 (by kernel_rfl) (by kernel_rfl) ?_
            simp only [List.take_succ_cons, List.take_zero]
            refine k_load M (want_no rfl) (some 90) rfl 39 _ rfl 3 g4 0 (by kernel_rfl) 4 39 (ls [.bool (v), .int .u64 (kH v h (md n v)), .int .u64 (kL v l (md n v) (wdt v)), .int .u8 (md n v)]) rfl 4 (ls [.bool (v), .int .u64 (kH v h (md n v)), .int .u64 (kL v l (md n v) (wdt v)), .int .u8 (md n v)]) (fun j _ => by rw [Nat.zero_add]) (by decide) _ Tryz.underlying39 rfl inz39 ?_
            refine k_load M (want_no rfl) (some 91) rfl 24 _ rfl 1 g2 0 (by kernel_rfl) 3 24 (ls [.bool (v), .int .u64 h', .int .u64 l']) rfl 3 (ls [.bool (v), .int .u64 h', .int .u64 l']) (fun j _ => by rw [Nat.zero_add]) (by decide) _ Tryz.underlying24 rfl inz24 ?_
            refine k_call M (want_no rfl) (some 92) rfl 28 #[.agg (av 4 (ls [.bool (v), .int .u64 (kH v h (md n v)), .int .u64 (kL v l (md n v) (wdt v)), .int .u8 (md n v)])), .agg (av 3 (ls [.bool (v), .int .u64 h', .int .u64 l']))] (.bool true) (fun _ => by kernel_rfl) (fun w M => call_val (c_Holds v (kH v h (md n v)) (kL v l (md n v) (wdt v)) (md n v) (by omega) (by omega) v h' l' w M.laid) (congrArg Value.bool c4)) ?_
            refine k_load M (want_no rfl) (some 93) rfl 39 _ rfl 4 g5 0 (by kernel_rfl) 4 39 (ls [.bool (v), .int .u64 (kH v h' (md n v)), .int .u64 (kL v l' (md n v) (wdt v)), .int .u8 (md n v)]) rfl 4 (ls [.bool (v), .int .u64 (kH v h' (md n v)), .int .u64 (kL v l' (md n v) (wdt v)), .int .u8 (md n v)]) (fun j _ => by rw [Nat.zero_add]) (by decide) _ Tryz.underlying39 rfl inz39 ?_
            refine k_load M (want_no rfl) (some 94) rfl 39 _ rfl 3 g4 0 (by kernel_rfl) 4 39 (ls [.bool (v), .int .u64 (kH v h (md n v)), .int .u64 (kL v l (md n v) (wdt v)), .int .u8 (md n v)]) rfl 4 (ls [.bool (v), .int .u64 (kH v h (md n v)), .int .u64 (kL v l (md n v) (wdt v)), .int .u8 (md n v)]) (fun j _ => by rw [Nat.zero_add]) (by decide) _ Tryz.underlying39 rfl inz39 ?_
            refine k_val (want_no rfl) (some 95) rfl (.bool true) (fun w => (eql39 v v (kH v h' (md n v)) (kH v h (md n v)) (kL v l' (md n v) (wdt v)) (kL v l (md n v) (wdt v)) (md n v) (md n v) _ _ rfl (by kernel_rfl) (by kernel_rfl) w).trans (by rw [hO_other v h l h0 h1 l0 l1 hma h' l' p0 p1 k0 k1 hmb (md m v) (md n v) (by omega) (by omega) (by omega), c4])) ?_
            refine k_val (want_no rfl) (some 96) rfl (.bool true) (fun _ => by kernel_rfl) ?_
            refine k_val (want_no rfl) (some 97) rfl (.bool true) (fun _ => by kernel_rfl) ?_
            refine k_load M (want_on 7 true rfl 97 rfl (by kernel_rfl)) (some 98) rfl 24 _ rfl 0 g1 0 (by kernel_rfl) 3 24 (ls [.bool (v), .int .u64 h, .int .u64 l]) rfl 3 (ls [.bool (v), .int .u64 h, .int .u64 l]) (fun j _ => by rw [Nat.zero_add]) (by decide) _ Tryz.underlying24 rfl inz24 ?_
            refine k_load M (want_on 7 true rfl 97 rfl (by kernel_rfl)) (some 99) rfl 24 _ rfl 1 g2 0 (by kernel_rfl) 3 24 (ls [.bool (v), .int .u64 h', .int .u64 l']) rfl 3 (ls [.bool (v), .int .u64 h', .int .u64 l']) (fun j _ => by rw [Nat.zero_add]) (by decide) _ Tryz.underlying24 rfl inz24 ?_
            by_cases c5 : v = v ∧ h = h' ∧ l = l'
            · skip
              refine k_val (want_on 7 true rfl 97 rfl (by kernel_rfl)) (some 100) rfl (.bool true) (fun w => (eql24 v v h h' l l' _ _ rfl (by kernel_rfl) (by kernel_rfl) w).trans (by rw [decide_eq_true c5])) ?_
              refine k_load M (want_on 7 true rfl 97 rfl (by kernel_rfl)) (some 101) rfl 24 _ rfl 0 g1 0 (by kernel_rfl) 3 24 (ls [.bool (v), .int .u64 h, .int .u64 l]) rfl 3 (ls [.bool (v), .int .u64 h, .int .u64 l]) (fun j _ => by rw [Nat.zero_add]) (by decide) _ Tryz.underlying24 rfl inz24 ?_
              refine k_load M (want_on 7 true rfl 97 rfl (by kernel_rfl)) (some 102) rfl 24 _ rfl 1 g2 0 (by kernel_rfl) 3 24 (ls [.bool (v), .int .u64 h', .int .u64 l']) rfl 3 (ls [.bool (v), .int .u64 h', .int .u64 l']) (fun j _ => by rw [Nat.zero_add]) (by decide) _ Tryz.underlying24 rfl inz24 ?_
              refine k_call M (want_on 7 true rfl 97 rfl (by kernel_rfl)) (some 103) rfl 30 #[.agg (av 3 (ls [.bool (v), .int .u64 h, .int .u64 l])), .agg (av 3 (ls [.bool (v), .int .u64 h', .int .u64 l']))] (.bool false) (fun _ => by kernel_rfl) (fun w M => call_val (c_Less v h l v h' l' w M.laid) (congrArg Value.bool (lS_no (decide_eq_true c5) (lS_anti v h l h' l')).1)) ?_
              refine k_val (want_on 7 true rfl 97 rfl (by kernel_rfl)) (some 104) rfl (.bool true) (fun _ => by kernel_rfl) ?_
              refine k_val (want_on 7 true rfl 97 rfl (by kernel_rfl)) (some 105) rfl (.bool true) (fun _ => by kernel_rfl) ?_
              refine k_load M (want_on 15 true rfl 105 rfl (by kernel_rfl)) (some 106) rfl 24 _ rfl 1 g2 0 (by kernel_rfl) 3 24 (ls [.bool (v), .int .u64 h', .int .u64 l']) rfl 3 (ls [.bool (v), .int .u64 h', .int .u64 l']) (fun j _ => by rw [Nat.zero_add]) (by decide) _ Tryz.underlying24 rfl inz24 ?_
              refine k_load M (want_on 15 true rfl 105 rfl (by kernel_rfl)) (some 107) rfl 24 _ rfl 0 g1 0 (by kernel_rfl) 3 24 (ls [.bool (v), .int .u64 h, .int .u64 l]) rfl 3 (ls [.bool (v), .int .u64 h, .int .u64 l]) (fun j _ => by rw [Nat.zero_add]) (by decide) _ Tryz.underlying24 rfl inz24 ?_
              refine k_call M (want_on 15 true rfl 105 rfl (by kernel_rfl)) (some 108) rfl 30 #[.agg (av 3 (ls [.bool (v), .int .u64 h', .int .u64 l'])), .agg (av 3 (ls [.bool (v), .int .u64 h, .int .u64 l]))] (.bool false) (fun _ => by kernel_rfl) (fun w M => call_val (c_Less v h' l' v h l w M.laid) (congrArg Value.bool (lS_no (decide_eq_true c5) (lS_anti v h l h' l')).2)) ?_
              refine k_val (want_on 15 true rfl 105 rfl (by kernel_rfl)) (some 109) rfl (.bool true) (fun _ => by kernel_rfl) ?_
              refine k_val (want_on 7 true rfl 97 rfl (by kernel_rfl)) (some 110) rfl (.bool true) (fun _ => by kernel_rfl) ?_
              refine k_val (want_on 7 true rfl 97 rfl (by kernel_rfl)) (some 111) rfl (.bool true) (fun _ => by kernel_rfl) ?_
              refine k_val (want_no rfl) (some 112) rfl (.bool true) (fun _ => by kernel_rfl) ?_
              refine k_val (want_no rfl) (some 113) rfl (.bool true) (fun _ => by kernel_rfl) ?_
              refine k_call M (want_on 23 true rfl 113 rfl (by kernel_rfl)) (some 114) rfl 9 #[] (.bool true) (fun _ => by kernel_rfl) (fun w M => c_works w M.laid) ?_
              refine k_val (want_no rfl) (some 115) rfl (.bool true) (fun _ => by kernel_rfl) ?_
              refine kl_nil ?_
              intro u16 M
              replace M : Mem ⟨w, []⟩ [⟨g1, .cells (av 3 (ls [.bool (v), .int .u64 h, .int .u64 l])) 24⟩, ⟨g2, .cells (av 3 (ls [.bool (v), .int .u64 h', .int .u64 l'])) 24⟩, ⟨g3, .cells (av 4 (ls [.bool (v), .int .u64 (kH v h (md m v)), .int .u64 (kL v l (md m v) (wdt v)), .int .u8 (md m v)])) 39⟩, ⟨g4, .cells (av 4 (ls [.bool (v), .int .u64 (kH v h (md n v)), .int .u64 (kL v l (md n v) (wdt v)), .int .u8 (md n v)])) 39⟩, ⟨g5, .cells (av 4 (ls [.bool (v), .int .u64 (kH v h' (md n v)), .int .u64 (kL v l' (md n v) (wdt v)), .int .u8 (md n v)])) 39⟩] u16 := M
              refine pl_val (want_no rfl) (some 8) rfl (.bool true) (fun _ => by kernel_rfl) ?_
              refine pl_nil ?_
              refine au_then ?_
              refine wp_ret ?_
              exact bodyPost_ret (v := .bool true) (results_tmp1 Tryz.results7 _ _ _ (by kernel_rfl)) (by kernel_rfl) ⟨rfl, below_grown M.old⟩
            · skip
              refine k_val (want_on 7 true rfl 97 rfl (by kernel_rfl)) (some 100) rfl (.bool false) (fun w => (eql24 v v h h' l l' _ _ rfl (by kernel_rfl) (by kernel_rfl) w).trans (by rw [decide_eq_false c5])) ?_
              refine k_load M (want_on 7 true rfl 97 rfl (by kernel_rfl)) (some 101) rfl 24 _ rfl 0 g1 0 (by kernel_rfl) 3 24 (ls [.bool (v), .int .u64 h, .int .u64 l]) rfl 3 (ls [.bool (v), .int .u64 h, .int .u64 l]) (fun j _ => by rw [Nat.zero_add]) (by decide) _ Tryz.underlying24 rfl inz24 ?_
              refine k_load M (want_on 7 true rfl 97 rfl (by kernel_rfl)) (some 102) rfl 24 _ rfl 1 g2 0 (by kernel_rfl) 3 24 (ls [.bool (v), .int .u64 h', .int .u64 l']) rfl 3 (ls [.bool (v), .int .u64 h', .int .u64 l']) (fun j _ => by rw [Nat.zero_add]) (by decide) _ Tryz.underlying24 rfl inz24 ?_
              rcases Bool.eq_false_or_eq_true (lS v h l v h' l') with c6 | c6
              · skip
                refine k_call M (want_on 7 true rfl 97 rfl (by kernel_rfl)) (some 103) rfl 30 #[.agg (av 3 (ls [.bool (v), .int .u64 h, .int .u64 l])), .agg (av 3 (ls [.bool (v), .int .u64 h', .int .u64 l']))] (.bool true) (fun _ => by kernel_rfl) (fun w M => call_val (c_Less v h l v h' l' w M.laid) (congrArg Value.bool c6)) ?_
                refine k_val (want_on 7 true rfl 97 rfl (by kernel_rfl)) (some 104) rfl (.bool false) (fun _ => by kernel_rfl) ?_
                refine k_val (want_on 7 true rfl 97 rfl (by kernel_rfl)) (some 105) rfl (.bool false) (fun _ => by kernel_rfl) ?_
                refine k_skip (want_off 15 true rfl 105 rfl (by kernel_rfl)) (some 106) rfl ?_
                refine k_skip (want_off 15 true rfl 105 rfl (by kernel_rfl)) (some 107) rfl ?_
                refine k_skip (want_off 15 true rfl 105 rfl (by kernel_rfl)) (some 108) rfl ?_
                refine k_skip (want_off 15 true rfl 105 rfl (by kernel_rfl)) (some 109) rfl ?_
                refine k_val (want_on 7 true rfl 97 rfl (by kernel_rfl)) (some 110) rfl (.bool false) (fun _ => by kernel_rfl) ?_
                refine k_val (want_on 7 true rfl 97 rfl (by kernel_rfl)) (some 111) rfl (.bool true) (fun _ => by kernel_rfl) ?_
                refine k_val (want_no rfl) (some 112) rfl (.bool true) (fun _ => by kernel_rfl) ?_
                refine k_val (want_no rfl) (some 113) rfl (.bool true) (fun _ => by kernel_rfl) ?_
                refine k_call M (want_on 23 true rfl 113 rfl (by kernel_rfl)) (some 114) rfl 9 #[] (.bool true) (fun _ => by kernel_rfl) (fun w M => c_works w M.laid) ?_
                refine k_val (want_no rfl) (some 115) rfl (.bool true) (fun _ => by kernel_rfl) ?_
                refine kl_nil ?_
                intro u16 M
                replace M : Mem ⟨w, []⟩ [⟨g1, .cells (av 3 (ls [.bool (v), .int .u64 h, .int .u64 l])) 24⟩, ⟨g2, .cells (av 3 (ls [.bool (v), .int .u64 h', .int .u64 l'])) 24⟩, ⟨g3, .cells (av 4 (ls [.bool (v), .int .u64 (kH v h (md m v)), .int .u64 (kL v l (md m v) (wdt v)), .int .u8 (md m v)])) 39⟩, ⟨g4, .cells (av 4 (ls [.bool (v), .int .u64 (kH v h (md n v)), .int .u64 (kL v l (md n v) (wdt v)), .int .u8 (md n v)])) 39⟩, ⟨g5, .cells (av 4 (ls [.bool (v), .int .u64 (kH v h' (md n v)), .int .u64 (kL v l' (md n v) (wdt v)), .int .u8 (md n v)])) 39⟩] u16 := M
                refine pl_val (want_no rfl) (some 8) rfl (.bool true) (fun _ => by kernel_rfl) ?_
                refine pl_nil ?_
                refine au_then ?_
                refine wp_ret ?_
                exact bodyPost_ret (v := .bool true) (results_tmp1 Tryz.results7 _ _ _ (by kernel_rfl)) (by kernel_rfl) ⟨rfl, below_grown M.old⟩
              · skip
                refine k_call M (want_on 7 true rfl 97 rfl (by kernel_rfl)) (some 103) rfl 30 #[.agg (av 3 (ls [.bool (v), .int .u64 h, .int .u64 l])), .agg (av 3 (ls [.bool (v), .int .u64 h', .int .u64 l']))] (.bool false) (fun _ => by kernel_rfl) (fun w M => call_val (c_Less v h l v h' l' w M.laid) (congrArg Value.bool c6)) ?_
                refine k_val (want_on 7 true rfl 97 rfl (by kernel_rfl)) (some 104) rfl (.bool true) (fun _ => by kernel_rfl) ?_
                refine k_val (want_on 7 true rfl 97 rfl (by kernel_rfl)) (some 105) rfl (.bool true) (fun _ => by kernel_rfl) ?_
                refine k_load M (want_on 15 true rfl 105 rfl (by kernel_rfl)) (some 106) rfl 24 _ rfl 1 g2 0 (by kernel_rfl) 3 24 (ls [.bool (v), .int .u64 h', .int .u64 l']) rfl 3 (ls [.bool (v), .int .u64 h', .int .u64 l']) (fun j _ => by rw [Nat.zero_add]) (by decide) _ Tryz.underlying24 rfl inz24 ?_
                refine k_load M (want_on 15 true rfl 105 rfl (by kernel_rfl)) (some 107) rfl 24 _ rfl 0 g1 0 (by kernel_rfl) 3 24 (ls [.bool (v), .int .u64 h, .int .u64 l]) rfl 3 (ls [.bool (v), .int .u64 h, .int .u64 l]) (fun j _ => by rw [Nat.zero_add]) (by decide) _ Tryz.underlying24 rfl inz24 ?_
                refine k_call M (want_on 15 true rfl 105 rfl (by kernel_rfl)) (some 108) rfl 30 #[.agg (av 3 (ls [.bool (v), .int .u64 h', .int .u64 l'])), .agg (av 3 (ls [.bool (v), .int .u64 h, .int .u64 l]))] (.bool true) (fun _ => by kernel_rfl) (fun w M => call_val (c_Less v h' l' v h l w M.laid) (congrArg Value.bool (lS_yes (decide_eq_false c5) (lS_anti v h l h' l') c6))) ?_
                refine k_val (want_on 15 true rfl 105 rfl (by kernel_rfl)) (some 109) rfl (.bool false) (fun _ => by kernel_rfl) ?_
                refine k_val (want_on 7 true rfl 97 rfl (by kernel_rfl)) (some 110) rfl (.bool false) (fun _ => by kernel_rfl) ?_
                refine k_val (want_on 7 true rfl 97 rfl (by kernel_rfl)) (some 111) rfl (.bool true) (fun _ => by kernel_rfl) ?_
                refine k_val (want_no rfl) (some 112) rfl (.bool true) (fun _ => by kernel_rfl) ?_
                refine k_val (want_no rfl) (some 113) rfl (.bool true) (fun _ => by kernel_rfl) ?_
                refine k_call M (want_on 23 true rfl 113 rfl (by kernel_rfl)) (some 114) rfl 9 #[] (.bool true) (fun _ => by kernel_rfl) (fun w M => c_works w M.laid) ?_
                refine k_val (want_no rfl) (some 115) rfl (.bool true) (fun _ => by kernel_rfl) ?_
                refine kl_nil ?_
                intro u16 M
                replace M : Mem ⟨w, []⟩ [⟨g1, .cells (av 3 (ls [.bool (v), .int .u64 h, .int .u64 l])) 24⟩, ⟨g2, .cells (av 3 (ls [.bool (v), .int .u64 h', .int .u64 l'])) 24⟩, ⟨g3, .cells (av 4 (ls [.bool (v), .int .u64 (kH v h (md m v)), .int .u64 (kL v l (md m v) (wdt v)), .int .u8 (md m v)])) 39⟩, ⟨g4, .cells (av 4 (ls [.bool (v), .int .u64 (kH v h (md n v)), .int .u64 (kL v l (md n v) (wdt v)), .int .u8 (md n v)])) 39⟩, ⟨g5, .cells (av 4 (ls [.bool (v), .int .u64 (kH v h' (md n v)), .int .u64 (kL v l' (md n v) (wdt v)), .int .u8 (md n v)])) 39⟩] u16 := M
                refine pl_val (want_no rfl) (some 8) rfl (.bool true) (fun _ => by kernel_rfl) ?_
                refine pl_nil ?_
                refine au_then ?_
                refine wp_ret ?_
                exact bodyPost_ret (v := .bool true) (results_tmp1 Tryz.results7 _ _ _ (by kernel_rfl)) (by kernel_rfl) ⟨rfl, below_grown M.old⟩
          · skip
            refine pl_call M (want_no rfl) (some 78) rfl 28 #[.agg (av 4 (ls [.bool (v), .int .u64 (kH v h (md n v)), .int .u64 (kL v l (md n v) (wdt v)), .int .u8 (md n v)])), .agg (av 3 (ls [.bool (v), .int .u64 h', .int .u64 l']))] (.bool false) (fun _ => by kernel_rfl) (fun w M => call_val (c_Holds v (kH v h (md n v)) (kL v l (md n v) (wdt v)) (md n v) (by omega) (by omega) v h' l' w M.laid) (congrArg Value.bool c4)) ?_
            intro u14 M
            refine pl_val (want_no rfl) (some 79) rfl (.bool false) (fun _ => by kernel_rfl) ?_
            refine pl_skip (want_off 3 true rfl 79 rfl (by kernel_rfl)) (some 80) rfl ?_
            refine pl_skip (want_off 3 true rfl 79 rfl (by kernel_rfl)) (some 81) rfl ?_
            refine pl_skip (want_off 3 true rfl 79 rfl (by kernel_rfl)) (some 82) rfl ?_
            refine pl_skip (want_off 3 true rfl 79 rfl (by kernel_rfl)) (some 83) rfl ?_
            refine pl_skip (want_off 3 true rfl 79 rfl (by kernel_rfl)) (some 84) rfl ?_
            refine pl_skip (want_und 8 false rfl 84 rfl (by kernel_rfl)) (some 85) rfl ?_
            refine pl_skip (want_und 8 false rfl 84 rfl (by kernel_rfl)) (some 86) rfl ?_
            refine pl_skip (want_und 8 false rfl 84 rfl (by kernel_rfl)) (some 87) rfl ?_
            refine pl_skip (want_off 3 true rfl 79 rfl (by kernel_rfl)) (some 88) rfl ?_
            refine pl_val (want_no rfl) (some 89) rfl (.bool false) (fun _ => by kernel_rfl) ?_
            refine pl_nil ?_
            refine au_then ?_
            refine wp_cond_false (by kernel_rfl) ?_
            refine wp_skip ?_
            refine au_then ?_
            refine wp_seq ?_
            refine rg_tail M 26 (by kernel_rfl) (by kernel_rfl) ?_
            simp only [List.take_succ_cons, List.take_zero]
            refine k_load M (want_no rfl) (some 90) rfl 39 _ rfl 3 g4 0 (by kernel_rfl) 4 39 (ls [.bool (v), .int .u64 (kH v h (md n v)), .int .u64 (kL v l (md n v) (wdt v)), .int .u8 (md n v)]) rfl 4 (ls [.bool (v), .int .u64 (kH v h (md n v)), .int .u64 (kL v l (md n v) (wdt v)), .int .u8 (md n v)]) (fun j _ => by rw [Nat.zero_add]) (by decide) _ Tryz.underlying39 rfl inz39 ?_
            refine k_load M (want_no rfl) (some 91) rfl 24 _ rfl 1 g2 0 (by kernel_rfl) 3 24 (ls [.bool (v), .int .u64 h', .int .u64 l']) rfl 3 (ls [.bool (v), .int .u64 h', .int .u64 l']) (fun j _ => by rw [Nat.zero_add]) (by decide) _ Tryz.underlying24 rfl inz24 ?_
            refine k_call M (want_no rfl) (some 92) rfl 28 #[.agg (av 4 (ls [.bool (v), .int .u64 (kH v h (md n v)), .int .u64 (kL v l (md n v) (wdt v)), .int .u8 (md n v)])), .agg (av 3 (ls [.bool (v), .int .u64 h', .int .u64 l']))] (.bool false) (fun _ => by kernel_rfl) (fun w M => call_val (c_Holds v (kH v h (md n v)) (kL v l (md n v) (wdt v)) (md n v) (by omega) (by omega) v h' l' w M.laid) (congrArg Value.bool c4)) ?_
            refine k_load M (want_no rfl) (some 93) rfl 39 _ rfl 4 g5 0 (by kernel_rfl) 4 39 (ls [.bool (v), .int .u64 (kH v h' (md n v)), .int .u64 (kL v l' (md n v) (wdt v)), .int .u8 (md n v)]) rfl 4 (ls [.bool (v), .int .u64 (kH v h' (md n v)), .int .u64 (kL v l' (md n v) (wdt v)), .int .u8 (md n v)]) (fun j _ => by rw [Nat.zero_add]) (by decide) _ Tryz.underlying39 rfl inz39 ?_
            refine k_load M (want_no rfl) (some 94) rfl 39 _ rfl 3 g4 0 (by kernel_rfl) 4 39 (ls [.bool (v), .int .u64 (kH v h (md n v)), .int .u64 (kL v l (md n v) (wdt v)), .int .u8 (md n v)]) rfl 4 (ls [.bool (v), .int .u64 (kH v h (md n v)), .int .u64 (kL v l (md n v) (wdt v)), .int .u8 (md n v)]) (fun j _ => by rw [Nat.zero_add]) (by decide) _ Tryz.underlying39 rfl inz39 ?_
            refine k_val (want_no rfl) (some 95) rfl (.bool false) (fun w => (eql39 v v (kH v h' (md n v)) (kH v h (md n v)) (kL v l' (md n v) (wdt v)) (kL v l (md n v) (wdt v)) (md n v) (md n v) _ _ rfl (by kernel_rfl) (by kernel_rfl) w).trans (by rw [hO_other v h l h0 h1 l0 l1 hma h' l' p0 p1 k0 k1 hmb (md m v) (md n v) (by omega) (by omega) (by omega), c4])) ?_
            refine k_val (want_no rfl) (some 96) rfl (.bool true) (fun _ => by kernel_rfl) ?_
            refine k_val (want_no rfl) (some 97) rfl (.bool true) (fun _ => by kernel_rfl) ?_
            refine k_load M (want_on 7 true rfl 97 rfl (by kernel_rfl)) (some 98) rfl 24 _ rfl 0 g1 0 (by kernel_rfl) 3 24 (ls [.bool (v), .int .u64 h, .int .u64 l]) rfl 3 (ls [.bool (v), .int .u64 h, .int .u64 l]) (fun j _ => by rw [Nat.zero_add]) (by decide) _ Tryz.underlying24 rfl inz24 ?_
            refine k_load M (want_on 7 true rfl 97 rfl (by kernel_rfl)) (some 99) rfl 24 _ rfl 1 g2 0 (by kernel_rfl) 3 24 (ls [.bool (v), .int .u64 h', .int .u64 l']) rfl 3 (ls [.bool (v), .int .u64 h', .int .u64 l']) (fun j _ => by rw [Nat.zero_add]) (by decide) _ Tryz.underlying24 rfl inz24 ?_
            by_cases c5 : v = v ∧ h = h' ∧ l = l'
            · skip
              refine k_val (want_on 7 true rfl 97 rfl (by kernel_rfl)) (some 100) rfl (.bool true) (fun w => (eql24 v v h h' l l' _ _ rfl (by kernel_rfl) (by kernel_rfl) w).trans (by rw [decide_eq_true c5])) ?_
              refine k_load M (want_on 7 true rfl 97 rfl (by kernel_rfl)) (some 101) rfl 24 _ rfl 0 g1 0 (by kernel_rfl) 3 24 (ls [.bool (v), .int .u64 h, .int .u64 l]) rfl 3 (ls [.bool (v), .int .u64 h, .int .u64 l]) (fun j _ => by rw [Nat.zero_add]) (by decide) _ Tryz.underlying24 rfl inz24 ?_
              refine k_load M (want_on 7 true rfl 97 rfl (by kernel_rfl)) (some 102) rfl 24 _ rfl 1 g2 0 (by kernel_rfl) 3 24 (ls [.bool (v), .int .u64 h', .int .u64 l']) rfl 3 (ls [.bool (v), .int .u64 h', .int .u64 l']) (fun j _ => by rw [Nat.zero_add]) (by decide) _ Tryz.underlying24 rfl inz24 ?_
              refine k_call M (want_on 7 true rfl 97 rfl (by kernel_rfl)) (some 103) rfl 30 #[.agg (av 3 (ls [.bool (v), .int .u64 h, .int .u64 l])), .agg (av 3 (ls [.bool (v), .int .u64 h', .int .u64 l']))] (.bool false) (fun _ => by kernel_rfl) (fun w M => call_val (c_Less v h l v h' l' w M.laid) (congrArg Value.bool (lS_no (decide_eq_true c5) (lS_anti v h l h' l')).1)) ?_
              refine k_val (want_on 7 true rfl 97 rfl (by kernel_rfl)) (some 104) rfl (.bool true) (fun _ => by kernel_rfl) ?_
              refine k_val (want_on 7 true rfl 97 rfl (by kernel_rfl)) (some 105) rfl (.bool true) (fun _ => by kernel_rfl) ?_
              refine k_load M (want_on 15 true rfl 105 rfl (by kernel_rfl)) (some 106) rfl 24 _ rfl 1 g2 0 (by kernel_rfl) 3 24 (ls [.bool (v), .int .u64 h', .int .u64 l']) rfl 3 (ls [.bool (v), .int .u64 h', .int .u64 l']) (fun j _ => by rw [Nat.zero_add]) (by decide) _ Tryz.underlying24 rfl inz24 ?_
              refine k_load M (want_on 15 true rfl 105 rfl (by kernel_rfl)) (some 107) rfl 24 _ rfl 0 g1 0 (by kernel_rfl) 3 24 (ls [.bool (v), .int .u64 h, .int .u64 l]) rfl 3 (ls [.bool (v), .int .u64 h, .int .u64 l]) (fun j _ => by rw [Nat.zero_add]) (by decide) _ Tryz.underlying24 rfl inz24 ?_
              refine k_call M (want_on 15 true rfl 105 rfl (by kernel_rfl)) (some 108) rfl 30 #[.agg (av 3 (ls [.bool (v), .int .u64 h', .int .u64 l'])), .agg (av 3 (ls [.bool (v), .int .u64 h, .int .u64 l]))] (.bool false) (fun _ => by kernel_rfl) (fun w M => call_val (c_Less v h' l' v h l w M.laid) (congrArg Value.bool (lS_no (decide_eq_true c5) (lS_anti v h l h' l')).2)) ?_
              refine k_val (want_on 15 true rfl 105 rfl (by kernel_rfl)) (some 109) rfl (.bool true) (fun _ => by kernel_rfl) ?_
              refine k_val (want_on 7 true rfl 97 rfl (by kernel_rfl)) (some 110) rfl (.bool true) (fun _ => by kernel_rfl) ?_
              refine k_val (want_on 7 true rfl 97 rfl (by kernel_rfl)) (some 111) rfl (.bool true) (fun _ => by kernel_rfl) ?_
              refine k_val (want_no rfl) (some 112) rfl (.bool true) (fun _ => by kernel_rfl) ?_
              refine k_val (want_no rfl) (some 113) rfl (.bool true) (fun _ => by kernel_rfl) ?_
              refine k_call M (want_on 23 true rfl 113 rfl (by kernel_rfl)) (some 114) rfl 9 #[] (.bool true) (fun _ => by kernel_rfl) (fun w M => c_works w M.laid) ?_
              refine k_val (want_no rfl) (some 115) rfl (.bool true) (fun _ => by kernel_rfl) ?_
              refine kl_nil ?_
              intro u15 M
              replace M : Mem ⟨w, []⟩ [⟨g1, .cells (av 3 (ls [.bool (v), .int .u64 h, .int .u64 l])) 24⟩, ⟨g2, .cells (av 3 (ls [.bool (v), .int .u64 h', .int .u64 l'])) 24⟩, ⟨g3, .cells (av 4 (ls [.bool (v), .int .u64 (kH v h (md m v)), .int .u64 (kL v l (md m v) (wdt v)), .int .u8 (md m v)])) 39⟩, ⟨g4, .cells (av 4 (ls [.bool (v), .int .u64 (kH v h (md n v)), .int .u64 (kL v l (md n v) (wdt v)), .int .u8 (md n v)])) 39⟩, ⟨g5, .cells (av 4 (ls [.bool (v), .int .u64 (kH v h' (md n v)), .int .u64 (kL v l' (md n v) (wdt v)), .int .u8 (md n v)])) 39⟩] u15 := M
              refine pl_val (want_no rfl) (some 8) rfl (.bool true) (fun _ => by kernel_rfl) ?_
              refine pl_nil ?_
              refine au_then ?_
              refine wp_ret ?_
              exact bodyPost_ret (v := .bool true) (results_tmp1 Tryz.results7 _ _ _ (by kernel_rfl)) (by kernel_rfl) ⟨rfl, below_grown M.old⟩
            · skip
              refine k_val (want_on 7 true rfl 97 rfl (by kernel_rfl)) (some 100) rfl (.bool false) (fun w => (eql24 v v h h' l l' _ _ rfl (by kernel_rfl) (by kernel_rfl) w).trans (by rw [decide_eq_false c5])) ?_
              refine k_load M (want_on 7 true rfl 97 rfl (by kernel_rfl)) (some 101) rfl 24 _ rfl 0 g1 0 (by kernel_rfl) 3 24 (ls [.bool (v), .int .u64 h, .int .u64 l]) rfl 3 (ls [.bool (v), .int .u64 h, .int .u64 l]) (fun j _ => by rw [Nat.zero_add]) (by decide) _ Tryz.underlying24 rfl inz24 ?_
              refine k_load M (want_on 7 true rfl 97 rfl (by kernel_rfl)) (some 102) rfl 24 _ rfl 1 g2 0 (by kernel_rfl) 3 24 (ls [.bool (v), .int .u64 h', .int .u64 l']) rfl 3 (ls [.bool (v), .int .u64 h', .int .u64 l']) (fun j _ => by rw [Nat.zero_add]) (by decide) _ Tryz.underlying24 rfl inz24 ?_
              rcases Bool.eq_false_or_eq_true (lS v h l v h' l') with c6 | c6
              · skip
                refine k_call M (want_on 7 true rfl 97 rfl (by kernel_rfl)) (some 103) rfl 30 #[.agg (av 3 (ls [.bool (v), .int .u64 h, .int .u64 l])), .agg (av 3 (ls [.bool (v), .int .u64 h', .int .u64 l']))] (.bool true) (fun _ => by kernel_rfl) (fun w M => call_val (c_Less v h l v h' l' w M.laid) (congrArg Value.bool c6)) ?_
                refine k_val (want_on 7 true rfl 97 rfl (by kernel_rfl)) (some 104) rfl (.bool false) (fun _ => by kernel_rfl) ?_
                refine k_val (want_on 7 true rfl 97 rfl (by kernel_rfl)) (some 105) rfl (.bool false) (fun _ => by kernel_rfl) ?_
                refine k_skip (want_off 15 true rfl 105 rfl (by kernel_rfl)) (some 106) rfl ?_
                refine k_skip (want_off 15 true rfl 105 rfl (by kernel_rfl)) (some 107) rfl ?_
                refine k_skip (want_off 15 true rfl 105 rfl (by kernel_rfl)) (some 108) rfl ?_
                refine k_skip (want_off 15 true rfl 105 rfl (by kernel_rfl)) (some 109) rfl ?_
                refine k_val (want_on 7 true rfl 97 rfl (by kernel_rfl)) (some 110) rfl (.bool false) (fun _ => by kernel_rfl) ?_
                refine k_val (want_on 7 true rfl 97 rfl (by kernel_rfl)) (some 111) rfl (.bool true) (fun _ => by kernel_rfl) ?_
                refine k_val (want_no rfl) (some 112) rfl (.bool true) (fun _ => by kernel_rfl) ?_
                refine k_val (want_no rfl) (some 113) rfl (.bool true) (fun _ => by kernel_rfl) ?_
                refine k_call M (want_on 23 true rfl 113 rfl (by kernel_rfl)) (some 114) rfl 9 #[] (.bool true) (fun _ => by kernel_rfl) (fun w M => c_works w M.laid) ?_
                refine k_val (want_no rfl) (some 115) rfl (.bool true) (fun _ => by kernel_rfl) ?_
                refine kl_nil ?_
                intro u15 M
                replace M : Mem ⟨w, []⟩ [⟨g1, .cells (av 3 (ls [.bool (v), .int .u64 h, .int .u64 l])) 24⟩, ⟨g2, .cells (av 3 (ls [.bool (v), .int .u64 h', .int .u64 l'])) 24⟩, ⟨g3, .cells (av 4 (ls [.bool (v), .int .u64 (kH v h (md m v)), .int .u64 (kL v l (md m v) (wdt v)), .int .u8 (md m v)])) 39⟩, ⟨g4, .cells (av 4 (ls [.bool (v), .int .u64 (kH v h (md n v)), .int .u64 (kL v l (md n v) (wdt v)), .int .u8 (md n v)])) 39⟩, ⟨g5, .cells (av 4 (ls [.bool (v), .int .u64 (kH v h' (md n v)), .int .u64 (kL v l' (md n v) (wdt v)), .int .u8 (md n v)])) 39⟩] u15 := M
                refine pl_val (want_no rfl) (some 8) rfl (.bool true) (fun _ => by kernel_rfl) ?_
                refine pl_nil ?_
                refine au_then ?_
                refine wp_ret ?_
                exact bodyPost_ret (v := .bool true) (results_tmp1 Tryz.results7 _ _ _ (by kernel_rfl)) (by kernel_rfl) ⟨rfl, below_grown M.old⟩
              · skip
                refine k_call M (want_on 7 true rfl 97 rfl (by kernel_rfl)) (some 103) rfl 30 #[.agg (av 3 (ls [.bool (v), .int .u64 h, .int .u64 l])), .agg (av 3 (ls [.bool (v), .int .u64 h', .int .u64 l']))] (.bool false) (fun _ => by kernel_rfl) (fun w M => call_val (c_Less v h l v h' l' w M.laid) (congrArg Value.bool c6)) ?_
                refine k_val (want_on 7 true rfl 97 rfl (by kernel_rfl)) (some 104) rfl (.bool true) (fun _ => by kernel_rfl) ?_
                refine k_val (want_on 7 true rfl 97 rfl (by kernel_rfl)) (some 105) rfl (.bool true) (fun _ => by kernel_rfl) ?_
                refine k_load M (want_on 15 true rfl 105 rfl (by kernel_rfl)) (some 106) rfl 24 _ rfl 1 g2 0 (by kernel_rfl) 3 24 (ls [.bool (v), .int .u64 h', .int .u64 l']) rfl 3 (ls [.bool (v), .int .u64 h', .int .u64 l']) (fun j _ => by rw [Nat.zero_add]) (by decide) _ Tryz.underlying24 rfl inz24 ?_
                refine k_load M (want_on 15 true rfl 105 rfl (by kernel_rfl)) (some 107) rfl 24 _ rfl 0 g1 0 (by kernel_rfl) 3 24 (ls [.bool (v), .int .u64 h, .int .u64 l]) rfl 3 (ls [.bool (v), .int .u64 h, .int .u64 l]) (fun j _ => by rw [Nat.zero_add]) (by decide) _ Tryz.underlying24 rfl inz24 ?_
                refine k_call M (want_on 15 true rfl 105 rfl (by kernel_rfl)) (some 108) rfl 30 #[.agg (av 3 (ls [.bool (v), .int .u64 h', .int .u64 l'])), .agg (av 3 (ls [.bool (v), .int .u64 h, .int .u64 l]))] (.bool true) (fun _ => by kernel_rfl) (fun w M => call_val (c_Less v h' l' v h l w M.laid) (congrArg Value.bool (lS_yes (decide_eq_false c5) (lS_anti v h l h' l') c6))) ?_
                refine k_val (want_on 15 true rfl 105 rfl (by kernel_rfl)) (some 109) rfl (.bool false) (fun _ => by kernel_rfl) ?_
                refine k_val (want_on 7 true rfl 97 rfl (by kernel_rfl)) (some 110) rfl (.bool false) (fun _ => by kernel_rfl) ?_
                refine k_val (want_on 7 true rfl 97 rfl (by kernel_rfl)) (some 111) rfl (.bool true) (fun _ => by kernel_rfl) ?_
                refine k_val (want_no rfl) (some 112) rfl (.bool true) (fun _ => by kernel_rfl) ?_
                refine k_val (want_no rfl) (some 113) rfl (.bool true) (fun _ => by kernel_rfl) ?_
                refine k_call M (want_on 23 true rfl 113 rfl (by kernel_rfl)) (some 114) rfl 9 #[] (.bool true) (fun _ => by kernel_rfl) (fun w M => c_works w M.laid) ?_
                refine k_val (want_no rfl) (some 115) rfl (.bool true) (fun _ => by kernel_rfl) ?_
                refine kl_nil ?_
                intro u15 M
                replace M : Mem ⟨w, []⟩ [⟨g1, .cells (av 3 (ls [.bool (v), .int .u64 h, .int .u64 l])) 24⟩, ⟨g2, .cells (av 3 (ls [.bool (v), .int .u64 h', .int .u64 l'])) 24⟩, ⟨g3, .cells (av 4 (ls [.bool (v), .int .u64 (kH v h (md m v)), .int .u64 (kL v l (md m v) (wdt v)), .int .u8 (md m v)])) 39⟩, ⟨g4, .cells (av 4 (ls [.bool (v), .int .u64 (kH v h (md n v)), .int .u64 (kL v l (md n v) (wdt v)), .int .u8 (md n v)])) 39⟩, ⟨g5, .cells (av 4 (ls [.bool (v), .int .u64 (kH v h' (md n v)), .int .u64 (kL v l' (md n v) (wdt v)), .int .u8 (md n v)])) 39⟩] u15 := M
                refine pl_val (want_no rfl) (some 8) rfl (.bool true) (fun _ => by kernel_rfl) ?_
                refine pl_nil ?_
                refine au_then ?_
                refine wp_ret ?_
                exact bodyPost_ret (v := .bool true) (results_tmp1 Tryz.results7 _ _ _ (by kernel_rfl)) (by kernel_rfl) ⟨rfl, below_grown M.old⟩
  · skip
    refine pl_cell M (want_no rfl) (some 14) rfl 4 _ rfl g1 0 (by kernel_rfl) (.bool false) (fun _ => by kernel_rfl) (fun w M => M.cell 0 rfl (by decide) (congrArg Value.bool c0)) ?_
    refine pl_val (want_no rfl) (some 15) rfl (.pointer (some ⟨g2, 0, none⟩)) (fun _ => by kernel_rfl) ?_
    refine pl_cell M (want_no rfl) (some 16) rfl 4 _ rfl g2 0 (by kernel_rfl) (.bool false) (fun _ => by kernel_rfl) (fun w M => M.cell 1 rfl (by decide) (congrArg Value.bool c0)) ?_
    refine pl_val (want_no rfl) (some 17) rfl (.bool false) (fun _ => by kernel_rfl) ?_
    refine pl_val (want_no rfl) (some 18) rfl (.bool false) (fun _ => by kernel_rfl) ?_
    refine pl_load M (want_on 5 false rfl 18 rfl (by kernel_rfl)) (some 19) rfl 24 _ rfl 0 g1 0 (by kernel_rfl) 3 24 (ls [.bool (v), .int .u64 h, .int .u64 l]) rfl 3 (ls [.bool (v), .int .u64 h, .int .u64 l]) (fun j _ => by rw [Nat.zero_add]) (by decide) _ Tryz.underlying24 rfl inz24 ?_
    refine pl_call M (want_on 5 false rfl 18 rfl (by kernel_rfl)) (some 20) rfl 22 #[.agg (av 3 (ls [.bool (v), .int .u64 h, .int .u64 l]))] (.string (txt v h l)) (fun _ => by kernel_rfl) (fun w M => c_Text v h l w M.laid) ?_
    intro u3 M
    by_cases c1 : (txt v h l) = (⟨#[]⟩ : ByteArray)
    · skip
      refine pl_val (want_on 5 false rfl 18 rfl (by kernel_rfl)) (some 21) rfl (.bool true) (fun w => Eq.trans (b := .ok (.value (.bool ((txt v h l).toList == (⟨#[]⟩ : ByteArray).toList))) w) (by kernel_rfl) (by rw [seq_pos c1])) ?_
      refine pl_val (want_no rfl) (some 22) rfl (.bool true) (fun _ => by kernel_rfl) ?_
      refine pl_val (want_no rfl) (some 23) rfl (.bool true) (fun _ => by kernel_rfl) ?_
      refine pl_skip (want_off 10 false rfl 23 rfl (by kernel_rfl)) (some 24) rfl ?_
      refine pl_skip (want_off 10 false rfl 23 rfl (by kernel_rfl)) (some 25) rfl ?_
      refine pl_skip (want_off 10 false rfl 23 rfl (by kernel_rfl)) (some 26) rfl ?_
      refine pl_val (want_no rfl) (some 27) rfl (.bool true) (fun _ => by kernel_rfl) ?_
      refine pl_nil ?_
      refine au_then ?_
      refine wp_cond_true (by kernel_rfl) ?_
      refine wp_seq ?_
      refine rg_lit ?_
      refine pl_call M (want_no rfl) (some 28) rfl 9 #[] (.bool true) (fun _ => by kernel_rfl) (fun w M => c_works w M.laid) ?_
      intro u4 M
      refine pl_val (want_no rfl) (some 8) rfl (.bool true) (fun _ => by kernel_rfl) ?_
      refine pl_nil ?_
      refine au_then ?_
      refine wp_ret ?_
      refine au_then_ret ?_
      exact bodyPost_ret (v := .bool true) (results_tmp1 Tryz.results7 _ _ _ (by kernel_rfl)) (by kernel_rfl) ⟨rfl, below_grown M.old⟩
    · skip
      refine pl_val (want_on 5 false rfl 18 rfl (by kernel_rfl)) (some 21) rfl (.bool false) (fun w => Eq.trans (b := .ok (.value (.bool ((txt v h l).toList == (⟨#[]⟩ : ByteArray).toList))) w) (by kernel_rfl) (by rw [seq_neg c1])) ?_
      refine pl_val (want_no rfl) (some 22) rfl (.bool false) (fun _ => by kernel_rfl) ?_
      refine pl_val (want_no rfl) (some 23) rfl (.bool false) (fun _ => by kernel_rfl) ?_
      refine pl_load M (want_on 10 false rfl 23 rfl (by kernel_rfl)) (some 24) rfl 24 _ rfl 1 g2 0 (by kernel_rfl) 3 24 (ls [.bool (v), .int .u64 h', .int .u64 l']) rfl 3 (ls [.bool (v), .int .u64 h', .int .u64 l']) (fun j _ => by rw [Nat.zero_add]) (by decide) _ Tryz.underlying24 rfl inz24 ?_
      refine pl_call M (want_on 10 false rfl 23 rfl (by kernel_rfl)) (some 25) rfl 22 #[.agg (av 3 (ls [.bool (v), .int .u64 h', .int .u64 l']))] (.string (txt v h' l')) (fun _ => by kernel_rfl) (fun w M => c_Text v h' l' w M.laid) ?_
      intro u4 M
      by_cases c2 : (txt v h' l') = (⟨#[]⟩ : ByteArray)
      · skip
        refine pl_val (want_on 10 false rfl 23 rfl (by kernel_rfl)) (some 26) rfl (.bool true) (fun w => Eq.trans (b := .ok (.value (.bool ((txt v h' l').toList == (⟨#[]⟩ : ByteArray).toList))) w) (by kernel_rfl) (by rw [seq_pos c2])) ?_
        refine pl_val (want_no rfl) (some 27) rfl (.bool true) (fun _ => by kernel_rfl) ?_
        refine pl_nil ?_
        refine au_then ?_
        refine wp_cond_true (by kernel_rfl) ?_
        refine wp_seq ?_
        refine rg_lit ?_
        refine pl_call M (want_no rfl) (some 28) rfl 9 #[] (.bool true) (fun _ => by kernel_rfl) (fun w M => c_works w M.laid) ?_
        intro u5 M
        refine pl_val (want_no rfl) (some 8) rfl (.bool true) (fun _ => by kernel_rfl) ?_
        refine pl_nil ?_
        refine au_then ?_
        refine wp_ret ?_
        refine au_then_ret ?_
        exact bodyPost_ret (v := .bool true) (results_tmp1 Tryz.results7 _ _ _ (by kernel_rfl)) (by kernel_rfl) ⟨rfl, below_grown M.old⟩
      · skip
        refine pl_val (want_on 10 false rfl 23 rfl (by kernel_rfl)) (some 26) rfl (.bool false) (fun w => Eq.trans (b := .ok (.value (.bool ((txt v h' l').toList == (⟨#[]⟩ : ByteArray).toList))) w) (by kernel_rfl) (by rw [seq_neg c2])) ?_
        refine pl_val (want_no rfl) (some 27) rfl (.bool false) (fun _ => by kernel_rfl) ?_
        refine pl_nil ?_
        refine au_then ?_
        refine wp_cond_false (by kernel_rfl) ?_
        refine wp_skip ?_
        refine au_then ?_
        refine wp_seq ?_
        refine rg_lit ?_
        have hma := txt_mA v h l c1
        have hmb := txt_mA v h' l' c2
        refine pl_val (want_no rfl) (some 9) rfl (.int .u8 32) (fun _ => by kernel_rfl) ?_
        refine pl_nil ?_
        refine au_then ?_
        refine wp_seq ?_
        refine wp_seq ?_
        refine rg_lit ?_
        refine pl_val (want_no rfl) (some 29) rfl (.pointer (some ⟨g1, 0, none⟩)) (fun _ => by kernel_rfl) ?_
        refine pl_cell M (want_no rfl) (some 30) rfl 4 _ rfl g1 0 (by kernel_rfl) (.bool false) (fun _ => by kernel_rfl) (fun w M => M.cell 0 rfl (by decide) (congrArg Value.bool c0)) ?_
        refine pl_nil ?_
        refine au_then ?_
        refine wp_cond_false (by kernel_rfl) ?_
        refine wp_skip ?_
        refine au_then ?_
        refine wp_seq ?_
        refine rg_tail M 9 (by kernel_rfl) (by kernel_rfl) ?_
        simp only [List.take_succ_cons, List.take_zero]
        refine k_val (want_no rfl) (some 31) rfl (.int .u8 m) (fun _ => by kernel_rfl) ?_
        refine k_val (want_no rfl) (some 32) rfl (.int .u8 (wdt v)) (fun w => Eq.trans (b := .ok (.value (.int .u8 32)) w) (by kernel_rfl) (by rw [c0]; rfl)) ?_
        refine k_val (want_no rfl) (some 33) rfl (.int .u8 (wdt v + 1)) (fun w => Eq.trans (b := .ok (.value (.int .u8 (cv .u8 (wdt v + 1)))) w) (by kernel_rfl) (by rw [cv_u8]; congr 3; have := wdt_nn v; omega)) ?_
        refine k_val (want_no rfl) (some 34) rfl (.int .u8 (md m v)) (run_rem8 5 5 _ _ rfl m (wdt v + 1) (by kernel_rfl) (by kernel_rfl) (by omega) (by have := wdt_nn v; omega)) ?_
        refine k_val (want_no rfl) (some 35) rfl (.int .u8 n) (fun _ => by kernel_rfl) ?_
        refine k_val (want_no rfl) (some 36) rfl (.int .u8 (wdt v)) (fun w => Eq.trans (b := .ok (.value (.int .u8 32)) w) (by kernel_rfl) (by rw [c0]; rfl)) ?_
        refine k_val (want_no rfl) (some 37) rfl (.int .u8 (wdt v + 1)) (fun w => Eq.trans (b := .ok (.value (.int .u8 (cv .u8 (wdt v + 1)))) w) (by kernel_rfl) (by rw [cv_u8]; congr 3; have := wdt_nn v; omega)) ?_
        refine k_val (want_no rfl) (some 38) rfl (.int .u8 (md n v)) (run_rem8 5 5 _ _ rfl n (wdt v + 1) (by kernel_rfl) (by kernel_rfl) (by omega) (by have := wdt_nn v; omega)) ?_
        refine k_val (want_no rfl) (some 2) rfl (.int .u8 (md m v)) (fun _ => by kernel_rfl) ?_
        refine kl_nil ?_
        intro u5 M
        replace M : Mem ⟨w, []⟩ [⟨g1, .cells (av 3 (ls [.bool (v), .int .u64 h, .int .u64 l])) 24⟩, ⟨g2, .cells (av 3 (ls [.bool (v), .int .u64 h', .int .u64 l'])) 24⟩] u5 := M
        refine pl_val (want_no rfl) (some 3) rfl (.int .u8 (md n v)) (fun _ => by kernel_rfl) ?_
        refine pl_nil ?_
        refine au_then ?_
        refine wp_seq ?_
        refine wp_seq ?_
        refine rg_lit ?_
        refine pl_val (want_no rfl) (some 39) rfl (.int .u8 (md m v)) (fun _ => by kernel_rfl) ?_
        refine pl_val (want_no rfl) (some 40) rfl (.int .u8 (md n v)) (fun _ => by kernel_rfl) ?_
        by_cases c3 : (md n v) < (md m v)
        · skip
          refine pl_val (want_no rfl) (some 41) rfl (.bool true) (fun w => Eq.trans (b := .ok (.value (.bool (decide ((md n v) < (md m v))))) w) (by kernel_rfl) (by rw [decide_eq_true (c3)])) ?_
          refine pl_nil ?_
          refine au_then ?_
          refine wp_cond_true (by kernel_rfl) ?_
          refine rg_lit ?_
          refine pl_val (want_no rfl) (some 42) rfl (.int .u8 (md n v)) (fun _ => by kernel_rfl) ?_
          refine pl_val (want_no rfl) (some 43) rfl (.int .u8 (md m v)) (fun _ => by kernel_rfl) ?_
          refine pl_val (want_no rfl) (some 2) rfl (.int .u8 (md n v)) (fun _ => by kernel_rfl) ?_
          refine pl_val (want_no rfl) (some 3) rfl (.int .u8 (md m v)) (fun _ => by kernel_rfl) ?_
          refine pl_nil ?_
          refine au_then ?_
          refine wp_seq ?_
          refine rg_allocs M 12 [(10, fun g => .pointer (some ⟨g, 0, none⟩), .cells (av 4 (ls [.bool false, .int .u64 0, .int .u64 0, .int .u8 0])) 39), (11, fun g => .pointer (some ⟨g, 0, none⟩), .cells (av 4 (ls [.bool false, .int .u64 0, .int .u64 0, .int .u8 0])) 39), (12, fun g => .pointer (some ⟨g, 0, none⟩), .cells (av 4 (ls [.bool false, .int .u64 0, .int .u64 0, .int .u8 0])) 39)] (by kernel_rfl) (by kernel_rfl) (⟨rfl, rfl, fun _ _ => by kernel_rfl, ⟨rfl, rfl, fun _ _ => by kernel_rfl, ⟨rfl, rfl, fun _ _ => by kernel_rfl, trivial⟩⟩⟩) (by decide) ?_
          simp only [List.take_succ_cons, List.take_zero]
          refine k_load M (want_no rfl) (some 44) rfl 24 _ rfl 0 g1 0 (by kernel_rfl) 3 24 (ls [.bool (v), .int .u64 h, .int .u64 l]) rfl 3 (ls [.bool (v), .int .u64 h, .int .u64 l]) (fun j _ => by rw [Nat.zero_add]) (by decide) _ Tryz.underlying24 rfl inz24 ?_
          refine k_val (want_no rfl) (some 45) rfl (.int .u8 (md n v)) (fun _ => by kernel_rfl) ?_
          refine k_val (want_no rfl) (some 46) rfl (.int .u8 (wdt v)) (fun w => Eq.trans (b := .ok (.value (.int .u8 32)) w) (by kernel_rfl) (by rw [c0]; rfl)) ?_
          refine k_call M (want_no rfl) (some 47) rfl 32 #[.agg (av 3 (ls [.bool (v), .int .u64 h, .int .u64 l])), .int .u8 (md n v), .int .u8 (wdt v)] (.agg (av 4 (ls [.bool (v), .int .u64 (kH v h (md n v)), .int .u64 (kL v l (md n v) (wdt v)), .int .u8 (md n v)]))) (fun _ => by kernel_rfl) (fun w M => c_lcut v h l (md n v) (wdt v) (by omega) (by omega) rfl w M.laid) ?_
          refine k_load M (want_no rfl) (some 48) rfl 24 _ rfl 0 g1 0 (by kernel_rfl) 3 24 (ls [.bool (v), .int .u64 h, .int .u64 l]) rfl 3 (ls [.bool (v), .int .u64 h, .int .u64 l]) (fun j _ => by rw [Nat.zero_add]) (by decide) _ Tryz.underlying24 rfl inz24 ?_
          refine k_val (want_no rfl) (some 49) rfl (.int .u8 (md m v)) (fun _ => by kernel_rfl) ?_
          refine k_val (want_no rfl) (some 50) rfl (.int .u8 (wdt v)) (fun w => Eq.trans (b := .ok (.value (.int .u8 32)) w) (by kernel_rfl) (by rw [c0]; rfl)) ?_
          refine k_call M (want_no rfl) (some 51) rfl 32 #[.agg (av 3 (ls [.bool (v), .int .u64 h, .int .u64 l])), .int .u8 (md m v), .int .u8 (wdt v)] (.agg (av 4 (ls [.bool (v), .int .u64 (kH v h (md m v)), .int .u64 (kL v l (md m v) (wdt v)), .int .u8 (md m v)]))) (fun _ => by kernel_rfl) (fun w M => c_lcut v h l (md m v) (wdt v) (by omega) (by omega) rfl w M.laid) ?_
          refine k_load M (want_no rfl) (some 52) rfl 24 _ rfl 1 g2 0 (by kernel_rfl) 3 24 (ls [.bool (v), .int .u64 h', .int .u64 l']) rfl 3 (ls [.bool (v), .int .u64 h', .int .u64 l']) (fun j _ => by rw [Nat.zero_add]) (by decide) _ Tryz.underlying24 rfl inz24 ?_
          refine k_val (want_no rfl) (some 53) rfl (.int .u8 (md m v)) (fun _ => by kernel_rfl) ?_
          refine k_val (want_no rfl) (some 54) rfl (.int .u8 (wdt v)) (fun w => Eq.trans (b := .ok (.value (.int .u8 32)) w) (by kernel_rfl) (by rw [c0]; rfl)) ?_
          refine k_call M (want_no rfl) (some 55) rfl 32 #[.agg (av 3 (ls [.bool (v), .int .u64 h', .int .u64 l'])), .int .u8 (md m v), .int .u8 (wdt v)] (.agg (av 4 (ls [.bool (v), .int .u64 (kH v h' (md m v)), .int .u64 (kL v l' (md m v) (wdt v)), .int .u8 (md m v)]))) (fun _ => by kernel_rfl) (fun w M => c_lcut v h' l' (md m v) (wdt v) (by omega) (by omega) rfl w M.laid) ?_
          refine kl_nil ?_
          intro u6 g3 g4 g5 M
          replace M : Mem ⟨w, []⟩ [⟨g1, .cells (av 3 (ls [.bool (v), .int .u64 h, .int .u64 l])) 24⟩, ⟨g2, .cells (av 3 (ls [.bool (v), .int .u64 h', .int .u64 l'])) 24⟩, ⟨g3, .cells (av 4 (ls [.bool false, .int .u64 0, .int .u64 0, .int .u8 0])) 39⟩, ⟨g4, .cells (av 4 (ls [.bool false, .int .u64 0, .int .u64 0, .int .u8 0])) 39⟩, ⟨g5, .cells (av 4 (ls [.bool false, .int .u64 0, .int .u64 0, .int .u8 0])) 39⟩] u6 := M
          refine pl_put M (want_no rfl) rfl 39 _ _ rfl 2 g3 0 (by kernel_rfl) 4 39 (ls [.bool false, .int .u64 0, .int .u64 0, .int .u8 0]) rfl 4 (ls [.bool (v), .int .u64 (kH v h (md n v)), .int .u64 (kL v l (md n v) (wdt v)), .int .u8 (md n v)]) (ls [.bool (v), .int .u64 (kH v h (md n v)), .int .u64 (kL v l (md n v) (wdt v)), .int .u8 (md n v)]) (by kernel_rfl) inz39 (by decide) (one_ls _ rfl) (fun j hj => by rw [if_pos (by omega), Nat.sub_zero]) ?_
          intro u7 M
          replace M : Mem ⟨w, []⟩ [⟨g1, .cells (av 3 (ls [.bool (v), .int .u64 h, .int .u64 l])) 24⟩, ⟨g2, .cells (av 3 (ls [.bool (v), .int .u64 h', .int .u64 l'])) 24⟩, ⟨g3, .cells (av 4 (ls [.bool (v), .int .u64 (kH v h (md n v)), .int .u64 (kL v l (md n v) (wdt v)), .int .u8 (md n v)])) 39⟩, ⟨g4, .cells (av 4 (ls [.bool false, .int .u64 0, .int .u64 0, .int .u8 0])) 39⟩, ⟨g5, .cells (av 4 (ls [.bool false, .int .u64 0, .int .u64 0, .int .u8 0])) 39⟩] u7 := M
          refine pl_put M (want_no rfl) rfl 39 _ _ rfl 3 g4 0 (by kernel_rfl) 4 39 (ls [.bool false, .int .u64 0, .int .u64 0, .int .u8 0]) rfl 4 (ls [.bool (v), .int .u64 (kH v h (md m v)), .int .u64 (kL v l (md m v) (wdt v)), .int .u8 (md m v)]) (ls [.bool (v), .int .u64 (kH v h (md m v)), .int .u64 (kL v l (md m v) (wdt v)), .int .u8 (md m v)]) (by kernel_rfl) inz39 (by decide) (one_ls _ rfl) (fun j hj => by rw [if_pos (by omega), Nat.sub_zero]) ?_
          intro u8 M
          replace M : Mem ⟨w, []⟩ [⟨g1, .cells (av 3 (ls [.bool (v), .int .u64 h, .int .u64 l])) 24⟩, ⟨g2, .cells (av 3 (ls [.bool (v), .int .u64 h', .int .u64 l'])) 24⟩, ⟨g3, .cells (av 4 (ls [.bool (v), .int .u64 (kH v h (md n v)), .int .u64 (kL v l (md n v) (wdt v)), .int .u8 (md n v)])) 39⟩, ⟨g4, .cells (av 4 (ls [.bool (v), .int .u64 (kH v h (md m v)), .int .u64 (kL v l (md m v) (wdt v)), .int .u8 (md m v)])) 39⟩, ⟨g5, .cells (av 4 (ls [.bool false, .int .u64 0, .int .u64 0, .int .u8 0])) 39⟩] u8 := M
          refine pl_put M (want_no rfl) rfl 39 _ _ rfl 4 g5 0 (by kernel_rfl) 4 39 (ls [.bool false, .int .u64 0, .int .u64 0, .int .u8 0]) rfl 4 (ls [.bool (v), .int .u64 (kH v h' (md m v)), .int .u64 (kL v l' (md m v) (wdt v)), .int .u8 (md m v)]) (ls [.bool (v), .int .u64 (kH v h' (md m v)), .int .u64 (kL v l' (md m v) (wdt v)), .int .u8 (md m v)]) (by kernel_rfl) inz39 (by decide) (one_ls _ rfl) (fun j hj => by rw [if_pos (by omega), Nat.sub_zero]) ?_
          intro u9 M
          replace M : Mem ⟨w, []⟩ [⟨g1, .cells (av 3 (ls [.bool (v), .int .u64 h, .int .u64 l])) 24⟩, ⟨g2, .cells (av 3 (ls [.bool (v), .int .u64 h', .int .u64 l'])) 24⟩, ⟨g3, .cells (av 4 (ls [.bool (v), .int .u64 (kH v h (md n v)), .int .u64 (kL v l (md n v) (wdt v)), .int .u8 (md n v)])) 39⟩, ⟨g4, .cells (av 4 (ls [.bool (v), .int .u64 (kH v h (md m v)), .int .u64 (kL v l (md m v) (wdt v)), .int .u8 (md m v)])) 39⟩, ⟨g5, .cells (av 4 (ls [.bool (v), .int .u64 (kH v h' (md m v)), .int .u64 (kL v l' (md m v) (wdt v)), .int .u8 (md m v)])) 39⟩] u9 := M
          refine pl_nil ?_
          refine au_then ?_
          refine wp_seq ?_
          refine wp_seq ?_
          refine rg_lit ?_
          refine pl_load M (want_no rfl) (some 56) rfl 39 _ rfl 2 g3 0 (by kernel_rfl) 4 39 (ls [.bool (v), .int .u64 (kH v h (md n v)), .int .u64 (kL v l (md n v) (wdt v)), .int .u8 (md n v)]) rfl 4 (ls [.bool (v), .int .u64 (kH v h (md n v)), .int .u64 (kL v l (md n v) (wdt v)), .int .u8 (md n v)]) (fun j _ => by rw [Nat.zero_add]) (by decide) _ Tryz.underlying39 rfl inz39 ?_
          refine pl_call M (want_no rfl) (some 57) rfl 26 #[.agg (av 4 (ls [.bool (v), .int .u64 (kH v h (md n v)), .int .u64 (kL v l (md n v) (wdt v)), .int .u8 (md n v)]))] (.bool true) (fun _ => by kernel_rfl) (fun w M => call_val (c_MayPrefix v (kH v h (md n v)) (kL v l (md n v) (wdt v)) (md n v) (by omega) (by omega) w M.laid) (congrArg Value.bool (mP_cut v h l (md n v) h0 h1 l0 l1 hma (by omega) (by omega)))) ?_
          intro u10 M
          refine pl_val (want_no rfl) (some 58) rfl (.bool false) (fun _ => by kernel_rfl) ?_
          refine pl_val (want_no rfl) (some 59) rfl (.bool false) (fun _ => by kernel_rfl) ?_
          refine pl_load M (want_on 3 false rfl 59 rfl (by kernel_rfl)) (some 60) rfl 39 _ rfl 3 g4 0 (by kernel_rfl) 4 39 (ls [.bool (v), .int .u64 (kH v h (md m v)), .int .u64 (kL v l (md m v) (wdt v)), .int .u8 (md m v)]) rfl 4 (ls [.bool (v), .int .u64 (kH v h (md m v)), .int .u64 (kL v l (md m v) (wdt v)), .int .u8 (md m v)]) (fun j _ => by rw [Nat.zero_add]) (by decide) _ Tryz.underlying39 rfl inz39 ?_
          refine pl_call M (want_on 3 false rfl 59 rfl (by kernel_rfl)) (some 61) rfl 26 #[.agg (av 4 (ls [.bool (v), .int .u64 (kH v h (md m v)), .int .u64 (kL v l (md m v) (wdt v)), .int .u8 (md m v)]))] (.bool true) (fun _ => by kernel_rfl) (fun w M => call_val (c_MayPrefix v (kH v h (md m v)) (kL v l (md m v) (wdt v)) (md m v) (by omega) (by omega) w M.laid) (congrArg Value.bool (mP_cut v h l (md m v) h0 h1 l0 l1 hma (by omega) (by omega)))) ?_
          intro u11 M
          refine pl_val (want_on 3 false rfl 59 rfl (by kernel_rfl)) (some 62) rfl (.bool false) (fun _ => by kernel_rfl) ?_
          refine pl_val (want_no rfl) (some 63) rfl (.bool false) (fun _ => by kernel_rfl) ?_
          refine pl_val (want_no rfl) (some 64) rfl (.bool false) (fun _ => by kernel_rfl) ?_
          refine pl_load M (want_on 8 false rfl 64 rfl (by kernel_rfl)) (some 65) rfl 39 _ rfl 2 g3 0 (by kernel_rfl) 4 39 (ls [.bool (v), .int .u64 (kH v h (md n v)), .int .u64 (kL v l (md n v) (wdt v)), .int .u8 (md n v)]) rfl 4 (ls [.bool (v), .int .u64 (kH v h (md n v)), .int .u64 (kL v l (md n v) (wdt v)), .int .u8 (md n v)]) (fun j _ => by rw [Nat.zero_add]) (by decide) _ Tryz.underlying39 rfl inz39 ?_
          refine pl_load M (want_on 8 false rfl 64 rfl (by kernel_rfl)) (some 66) rfl 24 _ rfl 0 g1 0 (by kernel_rfl) 3 24 (ls [.bool (v), .int .u64 h, .int .u64 l]) rfl 3 (ls [.bool (v), .int .u64 h, .int .u64 l]) (fun j _ => by rw [Nat.zero_add]) (by decide) _ Tryz.underlying24 rfl inz24 ?_
          refine pl_call M (want_on 8 false rfl 64 rfl (by kernel_rfl)) (some 67) rfl 28 #[.agg (av 4 (ls [.bool (v), .int .u64 (kH v h (md n v)), .int .u64 (kL v l (md n v) (wdt v)), .int .u8 (md n v)])), .agg (av 3 (ls [.bool (v), .int .u64 h, .int .u64 l]))] (.bool true) (fun _ => by kernel_rfl) (fun w M => call_val (c_Holds v (kH v h (md n v)) (kL v l (md n v) (wdt v)) (md n v) (by omega) (by omega) v h l w M.laid) (congrArg Value.bool (hO_own v h l (md n v) h0 h1 l0 l1 hma (by omega) (by omega)))) ?_
          intro u12 M
          refine pl_val (want_on 8 false rfl 64 rfl (by kernel_rfl)) (some 68) rfl (.bool false) (fun _ => by kernel_rfl) ?_
          refine pl_val (want_no rfl) (some 69) rfl (.bool false) (fun _ => by kernel_rfl) ?_
          refine pl_val (want_no rfl) (some 70) rfl (.bool false) (fun _ => by kernel_rfl) ?_
          refine pl_load M (want_on 14 false rfl 70 rfl (by kernel_rfl)) (some 71) rfl 39 _ rfl 3 g4 0 (by kernel_rfl) 4 39 (ls [.bool (v), .int .u64 (kH v h (md m v)), .int .u64 (kL v l (md m v) (wdt v)), .int .u8 (md m v)]) rfl 4 (ls [.bool (v), .int .u64 (kH v h (md m v)), .int .u64 (kL v l (md m v) (wdt v)), .int .u8 (md m v)]) (fun j _ => by rw [Nat.zero_add]) (by decide) _ Tryz.underlying39 rfl inz39 ?_
          refine pl_load M (want_on 14 false rfl 70 rfl (by kernel_rfl)) (some 72) rfl 24 _ rfl 0 g1 0 (by kernel_rfl) 3 24 (ls [.bool (v), .int .u64 h, .int .u64 l]) rfl 3 (ls [.bool (v), .int .u64 h, .int .u64 l]) (fun j _ => by rw [Nat.zero_add]) (by decide) _ Tryz.underlying24 rfl inz24 ?_
          refine pl_call M (want_on 14 false rfl 70 rfl (by kernel_rfl)) (some 73) rfl 28 #[.agg (av 4 (ls [.bool (v), .int .u64 (kH v h (md m v)), .int .u64 (kL v l (md m v) (wdt v)), .int .u8 (md m v)])), .agg (av 3 (ls [.bool (v), .int .u64 h, .int .u64 l]))] (.bool true) (fun _ => by kernel_rfl) (fun w M => call_val (c_Holds v (kH v h (md m v)) (kL v l (md m v) (wdt v)) (md m v) (by omega) (by omega) v h l w M.laid) (congrArg Value.bool (hO_own v h l (md m v) h0 h1 l0 l1 hma (by omega) (by omega)))) ?_
          intro u13 M
          refine pl_val (want_on 14 false rfl 70 rfl (by kernel_rfl)) (some 74) rfl (.bool false) (fun _ => by kernel_rfl) ?_
          refine pl_val (want_no rfl) (some 75) rfl (.bool false) (fun _ => by kernel_rfl) ?_
          refine pl_nil ?_
          refine au_then ?_
          refine wp_cond_false (by kernel_rfl) ?_
          refine wp_skip ?_
          refine au_then ?_
          refine wp_seq ?_
          refine wp_seq ?_
          refine rg_lit ?_
          refine pl_load M (want_no rfl) (some 76) rfl 39 _ rfl 3 g4 0 (by kernel_rfl) 4 39 (ls [.bool (v), .int .u64 (kH v h (md m v)), .int .u64 (kL v l (md m v) (wdt v)), .int .u8 (md m v)]) rfl 4 (ls [.bool (v), .int .u64 (kH v h (md m v)), .int .u64 (kL v l (md m v) (wdt v)), .int .u8 (md m v)]) (fun j _ => by rw [Nat.zero_add]) (by decide) _ Tryz.underlying39 rfl inz39 ?_
          refine pl_load M (want_no rfl) (some 77) rfl 24 _ rfl 1 g2 0 (by kernel_rfl) 3 24 (ls [.bool (v), .int .u64 h', .int .u64 l']) rfl 3 (ls [.bool (v), .int .u64 h', .int .u64 l']) (fun j _ => by rw [Nat.zero_add]) (by decide) _ Tryz.underlying24 rfl inz24 ?_
          rcases Bool.eq_false_or_eq_true (hO v (kH v h (md m v)) (kL v l (md m v) (wdt v)) (md m v) v h' l') with c4 | c4
          · skip
            refine pl_call M (want_no rfl) (some 78) rfl 28 #[.agg (av 4 (ls [.bool (v), .int .u64 (kH v h (md m v)), .int .u64 (kL v l (md m v) (wdt v)), .int .u8 (md m v)])), .agg (av 3 (ls [.bool (v), .int .u64 h', .int .u64 l']))] (.bool true) (fun _ => by kernel_rfl) (fun w M => call_val (c_Holds v (kH v h (md m v)) (kL v l (md m v) (wdt v)) (md m v) (by omega) (by omega) v h' l' w M.laid) (congrArg Value.bool c4)) ?_
            intro u14 M
            refine pl_val (want_no rfl) (some 79) rfl (.bool true) (fun _ => by kernel_rfl) ?_
            refine pl_load M (want_on 3 true rfl 79 rfl (by kernel_rfl)) (some 80) rfl 39 _ rfl 2 g3 0 (by kernel_rfl) 4 39 (ls [.bool (v), .int .u64 (kH v h (md n v)), .int .u64 (kL v l (md n v) (wdt v)), .int .u8 (md n v)]) rfl 4 (ls [.bool (v), .int .u64 (kH v h (md n v)), .int .u64 (kL v l (md n v) (wdt v)), .int .u8 (md n v)]) (fun j _ => by rw [Nat.zero_add]) (by decide) _ Tryz.underlying39 rfl inz39 ?_
            refine pl_load M (want_on 3 true rfl 79 rfl (by kernel_rfl)) (some 81) rfl 24 _ rfl 1 g2 0 (by kernel_rfl) 3 24 (ls [.bool (v), .int .u64 h', .int .u64 l']) rfl 3 (ls [.bool (v), .int .u64 h', .int .u64 l']) (fun j _ => by rw [Nat.zero_add]) (by decide) _ Tryz.underlying24 rfl inz24 ?_
            refine pl_call M (want_on 3 true rfl 79 rfl (by kernel_rfl)) (some 82) rfl 28 #[.agg (av 4 (ls [.bool (v), .int .u64 (kH v h (md n v)), .int .u64 (kL v l (md n v) (wdt v)), .int .u8 (md n v)])), .agg (av 3 (ls [.bool (v), .int .u64 h', .int .u64 l']))] (.bool true) (fun _ => by kernel_rfl) (fun w M => call_val (c_Holds v (kH v h (md n v)) (kL v l (md n v) (wdt v)) (md n v) (by omega) (by omega) v h' l' w M.laid) (congrArg Value.bool (hO_short v h l h0 h1 l0 l1 hma h' l' p0 p1 k0 k1 hmb (md n v) (md m v) (by omega) (by omega) (by omega) c4))) ?_
            intro u15 M
            refine pl_val (want_on 3 true rfl 79 rfl (by kernel_rfl)) (some 83) rfl (.bool false) (fun _ => by kernel_rfl) ?_
            refine pl_val (want_on 3 true rfl 79 rfl (by kernel_rfl)) (some 84) rfl (.bool false) (fun _ => by kernel_rfl) ?_
            refine pl_load M (want_on 8 false rfl 84 rfl (by kernel_rfl)) (some 85) rfl 39 _ rfl 4 g5 0 (by kernel_rfl) 4 39 (ls [.bool (v), .int .u64 (kH v h' (md m v)), .int .u64 (kL v l' (md m v) (wdt v)), .int .u8 (md m v)]) rfl 4 (ls [.bool (v), .int .u64 (kH v h' (md m v)), .int .u64 (kL v l' (md m v) (wdt v)), .int .u8 (md m v)]) (fun j _ => by rw [Nat.zero_add]) (by decide) _ Tryz.underlying39 rfl inz39 ?_
            refine pl_load M (want_on 8 false rfl 84 rfl (by kernel_rfl)) (some 86) rfl 39 _ rfl 3 g4 0 (by kernel_rfl) 4 39 (ls [.bool (v), .int .u64 (kH v h (md m v)), .int .u64 (kL v l (md m v) (wdt v)), .int .u8 (md m v)]) rfl 4 (ls [.bool (v), .int .u64 (kH v h (md m v)), .int .u64 (kL v l (md m v) (wdt v)), .int .u8 (md m v)]) (fun j _ => by rw [Nat.zero_add]) (by decide) _ Tryz.underlying39 rfl inz39 ?_
            refine pl_val (want_on 8 false rfl 84 rfl (by kernel_rfl)) (some 87) rfl (.bool false) (fun w => (neq39 v v (kH v h' (md m v)) (kH v h (md m v)) (kL v l' (md m v) (wdt v)) (kL v l (md m v) (wdt v)) (md m v) (md m v) _ _ rfl (by kernel_rfl) (by kernel_rfl) w).trans (by rw [hO_other v h l h0 h1 l0 l1 hma h' l' p0 p1 k0 k1 hmb (md n v) (md m v) (by omega) (by omega) (by omega), c4]; rfl)) ?_
            refine pl_val (want_on 3 true rfl 79 rfl (by kernel_rfl)) (some 88) rfl (.bool false) (fun _ => by kernel_rfl) ?_
            refine pl_val (want_no rfl) (some 89) rfl (.bool false) (fun _ => by kernel_rfl) ?_
            refine pl_nil ?_
            refine au_then ?_
            refine wp_cond_false (by kernel_rfl) ?_
            refine wp_skip ?_
            refine au_then ?_
            refine wp_seq ?_
            refine rg_tail M 26 (by kernel_rfl) (by kernel_rfl) ?_
            simp only [List.take_succ_cons, List.take_zero]
            refine k_load M (want_no rfl) (some 90) rfl 39 _ rfl 3 g4 0 (by kernel_rfl) 4 39 (ls [.bool (v), .int .u64 (kH v h (md m v)), .int .u64 (kL v l (md m v) (wdt v)), .int .u8 (md m v)]) rfl 4 (ls [.bool (v), .int .u64 (kH v h (md m v)), .int .u64 (kL v l (md m v) (wdt v)), .int .u8 (md m v)]) (fun j _ => by rw [Nat.zero_add]) (by decide) _ Tryz.underlying39 rfl inz39 ?_
            refine k_load M (want_no rfl) (some 91) rfl 24 _ rfl 1 g2 0 (by kernel_rfl) 3 24 (ls [.bool (v), .int .u64 h', .int .u64 l']) rfl 3 (ls [.bool (v), .int .u64 h', .int .u64 l']) (fun j _ => by rw [Nat.zero_add]) (by decide) _ Tryz.underlying24 rfl inz24 ?_
            refine k_call M (want_no rfl) (some 92) rfl 28 #[.agg (av 4 (ls [.bool (v), .int .u64 (kH v h (md m v)), .int .u64 (kL v l (md m v) (wdt v)), .int .u8 (md m v)])), .agg (av 3 (ls [.bool (v), .int .u64 h', .int .u64 l']))] (.bool true) (fun _ => by kernel_rfl) (fun w M => call_val (c_Holds v (kH v h (md m v)) (kL v l (md m v) (wdt v)) (md m v) (by omega) (by omega) v h' l' w M.laid) (congrArg Value.bool c4)) ?_
            refine k_load M (want_no rfl) (some 93) rfl 39 _ rfl 4 g5 0 (by kernel_rfl) 4 39 (ls [.bool (v), .int .u64 (kH v h' (md m v)), .int .u64 (kL v l' (md m v) (wdt v)), .int .u8 (md m v)]) rfl 4 (ls [.bool (v), .int .u64 (kH v h' (md m v)), .int .u64 (kL v l' (md m v) (wdt v)), .int .u8 (md m v)]) (fun j _ => by rw [Nat.zero_add]) (by decide) _ Tryz.underlying39 rfl inz39 ?_
            refine k_load M (want_no rfl) (some 94) rfl 39 _ rfl 3 g4 0 (by kernel_rfl) 4 39 (ls [.bool (v), .int .u64 (kH v h (md m v)), .int .u64 (kL v l (md m v) (wdt v)), .int .u8 (md m v)]) rfl 4 (ls [.bool (v), .int .u64 (kH v h (md m v)), .int .u64 (kL v l (md m v) (wdt v)), .int .u8 (md m v)]) (fun j _ => by rw [Nat.zero_add]) (by decide) _ Tryz.underlying39 rfl inz39 ?_
            refine k_val (want_no rfl) (some 95) rfl (.bool true) (fun w => (eql39 v v (kH v h' (md m v)) (kH v h (md m v)) (kL v l' (md m v) (wdt v)) (kL v l (md m v) (wdt v)) (md m v) (md m v) _ _ rfl (by kernel_rfl) (by kernel_rfl) w).trans (by rw [hO_other v h l h0 h1 l0 l1 hma h' l' p0 p1 k0 k1 hmb (md n v) (md m v) (by omega) (by omega) (by omega), c4])) ?_
            refine k_val (want_no rfl) (some 96) rfl (.bool true) (fun _ => by kernel_rfl) ?_
            refine k_val (want_no rfl) (some 97) rfl (.bool true) (fun _ => by kernel_rfl) ?_
            refine k_load M (want_on 7 true rfl 97 rfl (by kernel_rfl)) (some 98) rfl 24 _ rfl 0 g1 0 (by kernel_rfl) 3 24 (ls [.bool (v), .int .u64 h, .int .u64 l]) rfl 3 (ls [.bool (v), .int .u64 h, .int .u64 l]) (fun j _ => by rw [Nat.zero_add]) (by decide) _ Tryz.underlying24 rfl inz24 ?_
            refine k_load M (want_on 7 true rfl 97 rfl (by kernel_rfl)) (some 99) rfl 24 _ rfl 1 g2 0 (by kernel_rfl) 3 24 (ls [.bool (v), .int .u64 h', .int .u64 l']) rfl 3 (ls [.bool (v), .int .u64 h', .int .u64 l']) (fun j _ => by rw [Nat.zero_add]) (by decide) _ Tryz.underlying24 rfl inz24 ?_
            by_cases c5 : v = v ∧ h = h' ∧ l = l'
            · skip
              refine k_val (want_on 7 true rfl 97 rfl (by kernel_rfl)) (some 100) rfl (.bool true) (fun w => (eql24 v v h h' l l' _ _ rfl (by kernel_rfl) (by kernel_rfl) w).trans (by rw [decide_eq_true c5])) ?_
              refine k_load M (want_on 7 true rfl 97 rfl (by kernel_rfl)) (some 101) rfl 24 _ rfl 0 g1 0 (by kernel_rfl) 3 24 (ls [.bool (v), .int .u64 h, .int .u64 l]) rfl 3 (ls [.bool (v), .int .u64 h, .int .u64 l]) (fun j _ => by rw [Nat.zero_add]) (by decide) _ Tryz.underlying24 rfl inz24 ?_
              refine k_load M (want_on 7 true rfl 97 rfl (by kernel_rfl)) (some 102) rfl 24 _ rfl 1 g2 0 (by kernel_rfl) 3 24 (ls [.bool (v), .int .u64 h', .int .u64 l']) rfl 3 (ls [.bool (v), .int .u64 h', .int .u64 l']) (fun j _ => by rw [Nat.zero_add]) (by decide) _ Tryz.underlying24 rfl inz24 ?_
              refine k_call M (want_on 7 true rfl 97 rfl (by kernel_rfl)) (some 103) rfl 30 #[.agg (av 3 (ls [.bool (v), .int .u64 h, .int .u64 l])), .agg (av 3 (ls [.bool (v), .int .u64 h', .int .u64 l']))] (.bool false) (fun _ => by kernel_rfl) (fun w M => call_val (c_Less v h l v h' l' w M.laid) (congrArg Value.bool (lS_no (decide_eq_true c5) (lS_anti v h l h' l')).1)) ?_
              refine k_val (want_on 7 true rfl 97 rfl (by kernel_rfl)) (some 104) rfl (.bool true) (fun _ => by kernel_rfl) ?_
              refine k_val (want_on 7 true rfl 97 rfl (by kernel_rfl)) (some 105) rfl (.bool true) (fun _ => by kernel_rfl) ?_
              refine k_load M (want_on 15 true rfl 105 rfl (by kernel_rfl)) (some 106) rfl 24 _ rfl 1 g2 0 (by kernel_rfl) 3 24 (ls [.bool (v), .int .u64 h', .int .u64 l']) rfl 3 (ls [.bool (v), .int .u64 h', .int .u64 l']) (fun j _ => by rw [Nat.zero_add]) (by decide) _ Tryz.underlying24 rfl inz24 ?_
              refine k_load M (want_on 15 true rfl 105 rfl (by kernel_rfl)) (some 107) rfl 24 _ rfl 0 g1 0 (by kernel_rfl) 3 24 (ls [.bool (v), .int .u64 h, .int .u64 l]) rfl 3 (ls [.bool (v), .int .u64 h, .int .u64 l]) (fun j _ => by rw [Nat.zero_add]) (by decide) _ Tryz.underlying24 rfl inz24 ?_
              refine k_call M (want_on 15 true rfl 105 rfl (by kernel_rfl)) (some 108) rfl 30 #[.agg (av 3 (ls [.bool (v), .int .u64 h', .int .u64 l'])), .agg (av 3 (ls [.bool (v), .int .u64 h, .int .u64 l]))] (.bool false) (fun _ => by kernel_rfl) (fun w M => call_val (c_Less v h' l' v h l w M.laid) (congrArg Value.bool (lS_no (decide_eq_true c5) (lS_anti v h l h' l')).2)) ?_
              refine k_val (want_on 15 true rfl 105 rfl (by kernel_rfl)) (some 109) rfl (.bool true) (fun _ => by kernel_rfl) ?_
              refine k_val (want_on 7 true rfl 97 rfl (by kernel_rfl)) (some 110) rfl (.bool true) (fun _ => by kernel_rfl) ?_
              refine k_val (want_on 7 true rfl 97 rfl (by kernel_rfl)) (some 111) rfl (.bool true) (fun _ => by kernel_rfl) ?_
              refine k_val (want_no rfl) (some 112) rfl (.bool true) (fun _ => by kernel_rfl) ?_
              refine k_val (want_no rfl) (some 113) rfl (.bool true) (fun _ => by kernel_rfl) ?_
              refine k_call M (want_on 23 true rfl 113 rfl (by kernel_rfl)) (some 114) rfl 9 #[] (.bool true) (fun _ => by kernel_rfl) (fun w M => c_works w M.laid) ?_
              refine k_val (want_no rfl) (some 115) rfl (.bool true) (fun _ => by kernel_rfl) ?_
              refine kl_nil ?_
              intro u16 M
              replace M : Mem ⟨w, []⟩ [⟨g1, .cells (av 3 (ls [.bool (v), .int .u64 h, .int .u64 l])) 24⟩, ⟨g2, .cells (av 3 (ls [.bool (v), .int .u64 h', .int .u64 l'])) 24⟩, ⟨g3, .cells (av 4 (ls [.bool (v), .int .u64 (kH v h (md n v)), .int .u64 (kL v l (md n v) (wdt v)), .int .u8 (md n v)])) 39⟩, ⟨g4, .cells (av 4 (ls [.bool (v), .int .u64 (kH v h (md m v)), .int .u64 (kL v l (md m v) (wdt v)), .int .u8 (md m v)])) 39⟩, ⟨g5, .cells (av 4 (ls [.bool (v), .int .u64 (kH v h' (md m v)), .int .u64 (kL v l' (md m v) (wdt v)), .int .u8 (md m v)])) 39⟩] u16 := M
              refine pl_val (want_no rfl) (some 8) rfl (.bool true) (fun _ => by kernel_rfl) ?_
              refine pl_nil ?_
              refine au_then ?_
              refine wp_ret ?_
              exact bodyPost_ret (v := .bool true) (results_tmp1 Tryz.results7 _ _ _ (by kernel_rfl)) (by kernel_rfl) ⟨rfl, below_grown M.old⟩
            · skip
              refine k_val (want_on 7 true rfl 97 rfl (by kernel_rfl)) (some 100) rfl (.bool false) (fun w => (eql24 v v h h' l l' _ _ rfl (by kernel_rfl) (by kernel_rfl) w).trans (by rw [decide_eq_false c5])) ?_
              refine k_load M (want_on 7 true rfl 97 rfl (by kernel_rfl)) (some 101) rfl 24 _ rfl 0 g1 0 (by kernel_rfl) 3 24 (ls [.bool (v), .int .u64 h, .int .u64 l]) rfl 3 (ls [.bool (v), .int .u64 h, .int .u64 l]) (fun j _ => by rw [Nat.zero_add]) (by decide) _ Tryz.underlying24 rfl inz24 ?_
              refine k_load M (want_on 7 true rfl 97 rfl (by kernel_rfl)) (some 102) rfl 24 _ rfl 1 g2 0 (by kernel_rfl) 3 24 (ls [.bool (v), .int .u64 h', .int .u64 l']) rfl 3 (ls [.bool (v), .int .u64 h', .int .u64 l']) (fun j _ => by rw [Nat.zero_add]) (by decide) _ Tryz.underlying24 rfl inz24 ?_
              rcases Bool.eq_false_or_eq_true (lS v h l v h' l') with c6 | c6
              · skip
                refine k_call M (want_on 7 true rfl 97 rfl (by kernel_rfl)) (some 103) rfl 30 #[.agg (av 3 (ls [.bool (v), .int .u64 h, .int .u64 l])), .agg (av 3 (ls [.bool (v), .int .u64 h', .int .u64 l']))] (.bool true) (fun _ => by kernel_rfl) (fun w M => call_val (c_Less v h l v h' l' w M.laid) (congrArg Value.bool c6)) ?_
                refine k_val (want_on 7 true rfl 97 rfl (by kernel_rfl)) (some 104) rfl (.bool false) (fun _ => by kernel_rfl) ?_
                refine k_val (want_on 7 true rfl 97 rfl (by kernel_rfl)) (some 105) rfl (.bool false) (fun _ => by kernel_rfl) ?_
                refine k_skip (want_off 15 true rfl 105 rfl (by kernel_rfl)) (some 106) rfl ?_
                refine k_skip (want_off 15 true rfl 105 rfl (by kernel_rfl)) (some 107) rfl ?_
                refine k_skip (want_off 15 true rfl 105 rfl (by kernel_rfl)) (some 108) rfl ?_
                refine k_skip (want_off 15 true rfl 105 rfl (by kernel_rfl)) (some 109) rfl ?_
                refine k_val (want_on 7 true rfl 97 rfl (by kernel_rfl)) (some 110) rfl (.bool false) (fun _ => by kernel_rfl) ?_
                refine k_val (want_on 7 true rfl 97 rfl (by kernel_rfl)) (some 111) rfl (.bool true) (fun _ => by kernel_rfl) ?_
                refine k_val (want_no rfl) (some 112) rfl (.bool true) (fun _ => by kernel_rfl) ?_
                refine k_val (want_no rfl) (some 113) rfl (.bool true) (fun _ => by kernel_rfl) ?_
                refine k_call M (want_on 23 true rfl 113 rfl (by kernel_rfl)) (some 114) rfl 9 #[] (.bool true) (fun _ => by kernel_rfl) (fun w M => c_works w M.laid) ?_
                refine k_val (want_no rfl) (some 115) rfl (.bool true) (fun _ => by kernel_rfl) ?_
                refine kl_nil ?_
                intro u16 M
                replace M : Mem ⟨w, []⟩ [⟨g1, .cells (av 3 (ls [.bool (v), .int .u64 h, .int .u64 l])) 24⟩, ⟨g2, .cells (av 3 (ls [.bool (v), .int .u64 h', .int .u64 l'])) 24⟩, ⟨g3, .cells (av 4 (ls [.bool (v), .int .u64 (kH v h (md n v)), .int .u64 (kL v l (md n v) (wdt v)), .int .u8 (md n v)])) 39⟩, ⟨g4, .cells (av 4 (ls [.bool (v), .int .u64 (kH v h (md m v)), .int .u64 (kL v l (md m v) (wdt v)), .int .u8 (md m v)])) 39⟩, ⟨g5, .cells (av 4 (ls [.bool (v), .int .u64 (kH v h' (md m v)), .int .u64 (kL v l' (md m v) (wdt v)), .int .u8 (md m v)])) 39⟩] u16 := M
                refine pl_val (want_no rfl) (some 8) rfl (.bool true) (fun _ => by kernel_rfl) ?_
                refine pl_nil ?_
                refine au_then ?_
                refine wp_ret ?_
                exact bodyPost_ret (v := .bool true) (results_tmp1 Tryz.results7 _ _ _ (by kernel_rfl)) (by kernel_rfl) ⟨rfl, below_grown M.old⟩
              · skip
                refine k_call M (want_on 7 true rfl 97 rfl (by kernel_rfl)) (some 103) rfl 30 #[.agg (av 3 (ls [.bool (v), .int .u64 h, .int .u64 l])), .agg (av 3 (ls [.bool (v), .int .u64 h', .int .u64 l']))] (.bool false) (fun _ => by kernel_rfl) (fun w M => call_val (c_Less v h l v h' l' w M.laid) (congrArg Value.bool c6)) ?_
                refine k_val (want_on 7 true rfl 97 rfl (by kernel_rfl)) (some 104) rfl (.bool true) (fun _ => by kernel_rfl) ?_
                refine k_val (want_on 7 true rfl 97 rfl (by kernel_rfl)) (some 105) rfl (.bool true) (fun _ => by kernel_rfl) ?_
                refine k_load M (want_on 15 true rfl 105 rfl (by kernel_rfl)) (some 106) rfl 24 _ rfl 1 g2 0 (by kernel_rfl) 3 24 (ls [.bool (v), .int .u64 h', .int .u64 l']) rfl 3 (ls [.bool (v), .int .u64 h', .int .u64 l']) (fun j _ => by rw [Nat.zero_add]) (by decide) _ Tryz.underlying24 rfl inz24 ?_
                refine k_load M (want_on 15 true rfl 105 rfl (by kernel_rfl)) (some 107) rfl 24 _ rfl 0 g1 0 (by kernel_rfl) 3 24 (ls [.bool (v), .int .u64 h, .int .u64 l]) rfl 3 (ls [.bool (v), .int .u64 h, .int .u64 l]) (fun j _ => by rw [Nat.zero_add]) (by decide) _ Tryz.underlying24 rfl inz24 ?_
                refine k_call M (want_on 15 true rfl 105 rfl (by kernel_rfl)) (some 108) rfl 30 #[.agg (av 3 (ls [.bool (v), .int .u64 h', .int .u64 l'])), .agg (av 3 (ls [.bool (v), .int .u64 h, .int .u64 l]))] (.bool true) (fun _ => by kernel_rfl) (fun w M => call_val (c_Less v h' l' v h l w M.laid) (congrArg Value.bool (lS_yes (decide_eq_false c5) (lS_anti v h l h' l') c6))) ?_
                refine k_val (want_on 15 true rfl 105 rfl (by kernel_rfl)) (some 109) rfl (.bool false) (fun _ => by kernel_rfl) ?_
                refine k_val (want_on 7 true rfl 97 rfl (by kernel_rfl)) (some 110) rfl (.bool false) (fun _ => by kernel_rfl) ?_
                refine k_val (want_on 7 true rfl 97 rfl (by kernel_rfl)) (some 111) rfl (.bool true) (fun _ => by kernel_rfl) ?_
                refine k_val (want_no rfl) (some 112) rfl (.bool true) (fun _ => by kernel_rfl) ?_
                refine k_val (want_no rfl) (some 113) rfl (.bool true) (fun _ => by kernel_rfl) ?_
                refine k_call M (want_on 23 true rfl 113 rfl (by kernel_rfl)) (some 114) rfl 9 #[] (.bool true) (fun _ => by kernel_rfl) (fun w M => c_works w M.laid) ?_
                refine k_val (want_no rfl) (some 115) rfl (.bool true) (fun _ => by kernel_rfl) ?_
                refine kl_nil ?_
                intro u16 M
                replace M : Mem ⟨w, []⟩ [⟨g1, .cells (av 3 (ls [.bool (v), .int .u64 h, .int .u64 l])) 24⟩, ⟨g2, .cells (av 3 (ls [.bool (v), .int .u64 h', .int .u64 l'])) 24⟩, ⟨g3, .cells (av 4 (ls [.bool (v), .int .u64 (kH v h (md n v)), .int .u64 (kL v l (md n v) (wdt v)), .int .u8 (md n v)])) 39⟩, ⟨g4, .cells (av 4 (ls [.bool (v), .int .u64 (kH v h (md m v)), .int .u64 (kL v l (md m v) (wdt v)), .int .u8 (md m v)])) 39⟩, ⟨g5, .cells (av 4 (ls [.bool (v), .int .u64 (kH v h' (md m v)), .int .u64 (kL v l' (md m v) (wdt v)), .int .u8 (md m v)])) 39⟩] u16 := M
                refine pl_val (want_no rfl) (some 8) rfl (.bool true) (fun _ => by kernel_rfl) ?_
                refine pl_nil ?_
                refine au_then ?_
                refine wp_ret ?_
                exact bodyPost_ret (v := .bool true) (results_tmp1 Tryz.results7 _ _ _ (by kernel_rfl)) (by kernel_rfl) ⟨rfl, below_grown M.old⟩
          · skip
            refine pl_call M (want_no rfl) (some 78) rfl 28 #[.agg (av 4 (ls [.bool (v), .int .u64 (kH v h (md m v)), .int .u64 (kL v l (md m v) (wdt v)), .int .u8 (md m v)])), .agg (av 3 (ls [.bool (v), .int .u64 h', .int .u64 l']))] (.bool false) (fun _ => by kernel_rfl) (fun w M => call_val (c_Holds v (kH v h (md m v)) (kL v l (md m v) (wdt v)) (md m v) (by omega) (by omega) v h' l' w M.laid) (congrArg Value.bool c4)) ?_
            intro u14 M
            refine pl_val (want_no rfl) (some 79) rfl (.bool false) (fun _ => by kernel_rfl) ?_
            refine pl_skip (want_off 3 true rfl 79 rfl (by kernel_rfl)) (some 80) rfl ?_
            refine pl_skip (want_off 3 true rfl 79 rfl (by kernel_rfl)) (some 81) rfl ?_
            refine pl_skip (want_off 3 true rfl 79 rfl (by kernel_rfl)) (some 82) rfl ?_
            refine pl_skip (want_off 3 true rfl 79 rfl (by kernel_rfl)) (some 83) rfl ?_
            refine pl_skip (want_off 3 true rfl 79 rfl (by kernel_rfl)) (some 84) rfl ?_
            refine pl_skip (want_und 8 false rfl 84 rfl (by kernel_rfl)) (some 85) rfl ?_
            refine pl_skip (want_und 8 false rfl 84 rfl (by kernel_rfl)) (some 86) rfl ?_
            refine pl_skip (want_und 8 false rfl 84 rfl (by kernel_rfl)) (some 87) rfl ?_
            refine pl_skip (want_off 3 true rfl 79 rfl (by kernel_rfl)) (some 88) rfl ?_
            refine pl_val (want_no rfl) (some 89) rfl (.bool false) (fun _ => by kernel_rfl) ?_
            refine pl_nil ?_
            refine au_then ?_
            refine wp_cond_false (by kernel_rfl) ?_
            refine wp_skip ?_
            refine au_then ?_
            refine wp_seq ?_
            refine rg_tail M 26 (by kernel_rfl) (by kernel_rfl) ?_
            simp only [List.take_succ_cons, List.take_zero]
            refine k_load M (want_no rfl) (some 90) rfl 39 _ rfl 3 g4 0 (by kernel_rfl) 4 39 (ls [.bool (v), .int .u64 (kH v h (md m v)), .int .u64 (kL v l (md m v) (wdt v)), .int .u8 (md m v)]) rfl 4 (ls [.bool (v), .int .u64 (kH v h (md m v)), .int .u64 (kL v l (md m v) (wdt v)), .int .u8 (md m v)]) (fun j _ => by rw [Nat.zero_add]) (by decide) _ Tryz.underlying39 rfl inz39 ?_
            refine k_load M (want_no rfl) (some 91) rfl 24 _ rfl 1 g2 0 (by kernel_rfl) 3 24 (ls [.bool (v), .int .u64 h', .int .u64 l']) rfl 3 (ls [.bool (v), .int .u64 h', .int .u64 l']) (fun j _ => by rw [Nat.zero_add]) (by decide) _ Tryz.underlying24 rfl inz24 ?_
            refine k_call M (want_no rfl) (some 92) rfl 28 #[.agg (av 4 (ls [.bool (v), .int .u64 (kH v h (md m v)), .int .u64 (kL v l (md m v) (wdt v)), .int .u8 (md m v)])), .agg (av 3 (ls [.bool (v), .int .u64 h', .int .u64 l']))] (.bool false) (fun _ => by kernel_rfl) (fun w M => call_val (c_Holds v (kH v h (md m v)) (kL v l (md m v) (wdt v)) (md m v) (by omega) (by omega) v h' l' w M.laid) (congrArg Value.bool c4)) ?_
            refine k_load M (want_no rfl) (some 93) rfl 39 _ rfl 4 g5 0 (by kernel_rfl) 4 39 (ls [.bool (v), .int .u64 (kH v h' (md m v)), .int .u64 (kL v l' (md m v) (wdt v)), .int .u8 (md m v)]) rfl 4 (ls [.bool (v), .int .u64 (kH v h' (md m v)), .int .u64 (kL v l' (md m v) (wdt v)), .int .u8 (md m v)]) (fun j _ => by rw [Nat.zero_add]) (by decide) _ Tryz.underlying39 rfl inz39 ?_
            refine k_load M (want_no rfl) (some 94) rfl 39 _ rfl 3 g4 0 (by kernel_rfl) 4 39 (ls [.bool (v), .int .u64 (kH v h (md m v)), .int .u64 (kL v l (md m v) (wdt v)), .int .u8 (md m v)]) rfl 4 (ls [.bool (v), .int .u64 (kH v h (md m v)), .int .u64 (kL v l (md m v) (wdt v)), .int .u8 (md m v)]) (fun j _ => by rw [Nat.zero_add]) (by decide) _ Tryz.underlying39 rfl inz39 ?_
            refine k_val (want_no rfl) (some 95) rfl (.bool false) (fun w => (eql39 v v (kH v h' (md m v)) (kH v h (md m v)) (kL v l' (md m v) (wdt v)) (kL v l (md m v) (wdt v)) (md m v) (md m v) _ _ rfl (by kernel_rfl) (by kernel_rfl) w).trans (by rw [hO_other v h l h0 h1 l0 l1 hma h' l' p0 p1 k0 k1 hmb (md n v) (md m v) (by omega) (by omega) (by omega), c4])) ?_
            refine k_val (want_no rfl) (some 96) rfl (.bool true) (fun _ => by kernel_rfl) ?_
            refine k_val (want_no rfl) (some 97) rfl (.bool true) (fun _ => by kernel_rfl) ?_
            refine k_load M (want_on 7 true rfl 97 rfl (by kernel_rfl)) (some 98) rfl 24 _ rfl 0 g1 0 (by kernel_rfl) 3 24 (ls [.bool (v), .int .u64 h, .int .u64 l]) rfl 3 (ls [.bool (v), .int .u64 h, .int .u64 l]) (fun j _ => by rw [Nat.zero_add]) (by decide) _ Tryz.underlying24 rfl inz24 ?_
            refine k_load M (want_on 7 true rfl 97 rfl (by kernel_rfl)) (some 99) rfl 24 _ rfl 1 g2 0 (by kernel_rfl) 3 24 (ls [.bool (v), .int .u64 h', .int .u64 l']) rfl 3 (ls [.bool (v), .int .u64 h', .int .u64 l']) (fun j _ => by rw [Nat.zero_add]) (by decide) _ Tryz.underlying24 rfl inz24 ?_
            by_cases c5 : v = v ∧ h = h' ∧ l = l'
            · skip
              refine k_val (want_on 7 true rfl 97 rfl (by kernel_rfl)) (some 100) rfl (.bool true) (fun w => (eql24 v v h h' l l' _ _ rfl (by kernel_rfl) (by kernel_rfl) w).trans (by rw [decide_eq_true c5])) ?_
              refine k_load M (want_on 7 true rfl 97 rfl (by kernel_rfl)) (some 101) rfl 24 _ rfl 0 g1 0 (by kernel_rfl) 3 24 (ls [.bool (v), .int .u64 h, .int .u64 l]) rfl 3 (ls [.bool (v), .int .u64 h, .int .u64 l]) (fun j _ => by rw [Nat.zero_add]) (by decide) _ Tryz.underlying24 rfl inz24 ?_
              refine k_load M (want_on 7 true rfl 97 rfl (by kernel_rfl)) (some 102) rfl 24 _ rfl 1 g2 0 (by kernel_rfl) 3 24 (ls [.bool (v), .int .u64 h', .int .u64 l']) rfl 3 (ls [.bool (v), .int .u64 h', .int .u64 l']) (fun j _ => by rw [Nat.zero_add]) (by decide) _ Tryz.underlying24 rfl inz24 ?_
              refine k_call M (want_on 7 true rfl 97 rfl (by kernel_rfl)) (some 103) rfl 30 #[.agg (av 3 (ls [.bool (v), .int .u64 h, .int .u64 l])), .agg (av 3 (ls [.bool (v), .int .u64 h', .int .u64 l']))] (.bool false) (fun _ => by kernel_rfl) (fun w M => call_val (c_Less v h l v h' l' w M.laid) (congrArg Value.bool (lS_no (decide_eq_true c5) (lS_anti v h l h' l')).1)) ?_
              refine k_val (want_on 7 true rfl 97 rfl (by kernel_rfl)) (some 104) rfl (.bool true) (fun _ => by kernel_rfl) ?_
              refine k_val (want_on 7 true rfl 97 rfl (by kernel_rfl)) (some 105) rfl (.bool true) (fun _ => by kernel_rfl) ?_
              refine k_load M (want_on 15 true rfl 105 rfl (by kernel_rfl)) (some 106) rfl 24 _ rfl 1 g2 0 (by kernel_rfl) 3 24 (ls [.bool (v), .int .u64 h', .int .u64 l']) rfl 3 (ls [.bool (v), .int .u64 h', .int .u64 l']) (fun j _ => by rw [Nat.zero_add]) (by decide) _ Tryz.underlying24 rfl inz24 ?_
              refine k_load M (want_on 15 true rfl 105 rfl (by kernel_rfl)) (some 107) rfl 24 _ rfl 0 g1 0 (by kernel_rfl) 3 24 (ls [.bool (v), .int .u64 h, .int .u64 l]) rfl 3 (ls [.bool (v), .int .u64 h, .int .u64 l]) (fun j _ => by rw [Nat.zero_add]) (by decide) _ Tryz.underlying24 rfl inz24 ?_
              refine k_call M (want_on 15 true rfl 105 rfl (by kernel_rfl)) (some 108) rfl 30 #[.agg (av 3 (ls [.bool (v), .int .u64 h', .int .u64 l'])), .agg (av 3 (ls [.bool (v), .int .u64 h, .int .u64 l]))] (.bool false) (fun _ => by kernel_rfl) (fun w M => call_val (c_Less v h' l' v h l w M.laid) (congrArg Value.bool (lS_no (decide_eq_true c5) (lS_anti v h l h' l')).2)) ?_
              refine k_val (want_on 15 true rfl 105 rfl (by kernel_rfl)) (some 109) rfl (.bool true) (fun _ => by kernel_rfl) ?_
              refine k_val (want_on 7 true rfl 97 rfl (by kernel_rfl)) (some 110) rfl (.bool true) (fun _ => by kernel_rfl) ?_
              refine k_val (want_on 7 true rfl 97 rfl (by kernel_rfl)) (some 111) rfl (.bool true) (fun _ => by kernel_rfl) ?_
              refine k_val (want_no rfl) (some 112) rfl (.bool true) (fun _ => by kernel_rfl) ?_
              refine k_val (want_no rfl) (some 113) rfl (.bool true) (fun _ => by kernel_rfl) ?_
              refine k_call M (want_on 23 true rfl 113 rfl (by kernel_rfl)) (some 114) rfl 9 #[] (.bool true) (fun _ => by kernel_rfl) (fun w M => c_works w M.laid) ?_
              refine k_val (want_no rfl) (some 115) rfl (.bool true) (fun _ => by kernel_rfl) ?_
              refine kl_nil ?_
              intro u15 M
              replace M : Mem ⟨w, []⟩ [⟨g1, .cells (av 3 (ls [.bool (v), .int .u64 h, .int .u64 l])) 24⟩, ⟨g2, .cells (av 3 (ls [.bool (v), .int .u64 h', .int .u64 l'])) 24⟩, ⟨g3, .cells (av 4 (ls [.bool (v), .int .u64 (kH v h (md n v)), .int .u64 (kL v l (md n v) (wdt v)), .int .u8 (md n v)])) 39⟩, ⟨g4, .cells (av 4 (ls [.bool (v), .int .u64 (kH v h (md m v)), .int .u64 (kL v l (md m v) (wdt v)), .int .u8 (md m v)])) 39⟩, ⟨g5, .cells (av 4 (ls [.bool (v), .int .u64 (kH v h' (md m v)), .int .u64 (kL v l' (md m v) (wdt v)), .int .u8 (md m v)])) 39⟩] u15 := M
              refine pl_val (want_no rfl) (some 8) rfl (.bool true) (fun _ => by kernel_rfl) ?_
              refine pl_nil ?_
              refine au_then ?_
              refine wp_ret ?_
              exact bodyPost_ret (v := .bool true) (results_tmp1 Tryz.results7 _ _ _ (by kernel_rfl)) (by kernel_rfl) ⟨rfl, below_grown M.old⟩
            · skip
              refine k_val (want_on 7 true rfl 97 rfl (by kernel_rfl)) (some 100) rfl (.bool false) (fun w => (eql24 v v h h' l l' _ _ rfl (by kernel_rfl) (by kernel_rfl) w).trans (by rw [decide_eq_false c5])) ?_
              refine k_load M (want_on 7 true rfl 97 rfl (by kernel_rfl)) (some 101) rfl 24 _ rfl 0 g1 0 (by kernel_rfl) 3 24 (ls [.bool (v), .int .u64 h, .int .u64 l]) rfl 3 (ls [.bool (v), .int .u64 h, .int .u64 l]) (fun j _ => by rw [Nat.zero_add]) (by decide) _ Tryz.underlying24 rfl inz24 ?_
              refine k_load M (want_on 7 true rfl 97 rfl (by kernel_rfl)) (some 102) rfl 24 _ rfl 1 g2 0 (by kernel_rfl) 3 24 (ls [.bool (v), .int .u64 h', .int .u64 l']) rfl 3 (ls [.bool (v), .int .u64 h', .int .u64 l']) (fun j _ => by rw [Nat.zero_add]) (by decide) _ Tryz.underlying24 rfl inz24 ?_
              rcases Bool.eq_false_or_eq_true (lS v h l v h' l') with c6 | c6
              · skip
                refine k_call M (want_on 7 true rfl 97 rfl (by kernel_rfl)) (some 103) rfl 30 #[.agg (av 3 (ls [.bool (v), .int .u64 h, .int .u64 l])), .agg (av 3 (ls [.bool (v), .int .u64 h', .int .u64 l']))] (.bool true) (fun _ => by kernel_rfl) (fun w M => call_val (c_Less v h l v h' l' w M.laid) (congrArg Value.bool c6)) ?_
                refine k_val (want_on 7 true rfl 97 rfl (by kernel_rfl)) (some 104) rfl (.bool false) (fun _ => by kernel_rfl) ?_
                refine k_val (want_on 7 true rfl 97 rfl (by kernel_rfl)) (some 105) rfl (.bool false) (fun _ => by kernel_rfl) ?_
                refine k_skip (want_off 15 true rfl 105 rfl (by kernel_rfl)) (some 106) rfl ?_
                refine k_skip (want_off 15 true rfl 105 rfl (by kernel_rfl)) (some 107) rfl ?_
                refine k_skip (want_off 15 true rfl 105 rfl (by kernel_rfl)) (some 108) rfl ?_
                refine k_skip (want_off 15 true rfl 105 rfl (by kernel_rfl)) (some 109) rfl ?_
                refine k_val (want_on 7 true rfl 97 rfl (by kernel_rfl)) (some 110) rfl (.bool false) (fun _ => by kernel_rfl) ?_
                refine k_val (want_on 7 true rfl 97 rfl (by kernel_rfl)) (some 111) rfl (.bool true) (fun _ => by kernel_rfl) ?_
                refine k_val (want_no rfl) (some 112) rfl (.bool true) (fun _ => by kernel_rfl) ?_
                refine k_val (want_no rfl) (some 113) rfl (.bool true) (fun _ => by kernel_rfl) ?_
                refine k_call M (want_on 23 true rfl 113 rfl (by kernel_rfl)) (some 114) rfl 9 #[] (.bool true) (fun _ => by kernel_rfl) (fun w M => c_works w M.laid) ?_
                refine k_val (want_no rfl) (some 115) rfl (.bool true) (fun _ => by kernel_rfl) ?_
                refine kl_nil ?_
                intro u15 M
                replace M : Mem ⟨w, []⟩ [⟨g1, .cells (av 3 (ls [.bool (v), .int .u64 h, .int .u64 l])) 24⟩, ⟨g2, .cells (av 3 (ls [.bool (v), .int .u64 h', .int .u64 l'])) 24⟩, ⟨g3, .cells (av 4 (ls [.bool (v), .int .u64 (kH v h (md n v)), .int .u64 (kL v l (md n v) (wdt v)), .int .u8 (md n v)])) 39⟩, ⟨g4, .cells (av 4 (ls [.bool (v), .int .u64 (kH v h (md m v)), .int .u64 (kL v l (md m v) (wdt v)), .int .u8 (md m v)])) 39⟩, ⟨g5, .cells (av 4 (ls [.bool (v), .int .u64 (kH v h' (md m v)), .int .u64 (kL v l' (md m v) (wdt v)), .int .u8 (md m v)])) 39⟩] u15 := M
                refine pl_val (want_no rfl) (some 8) rfl (.bool true) (fun _ => by kernel_rfl) ?_
                refine pl_nil ?_
                refine au_then ?_
                refine wp_ret ?_
                exact bodyPost_ret (v := .bool true) (results_tmp1 Tryz.results7 _ _ _ (by kernel_rfl)) (by kernel_rfl) ⟨rfl, below_grown M.old⟩
              · skip
                refine k_call M (want_on 7 true rfl 97 rfl (by kernel_rfl)) (some 103) rfl 30 #[.agg (av 3 (ls [.bool (v), .int .u64 h, .int .u64 l])), .agg (av 3 (ls [.bool (v), .int .u64 h', .int .u64 l']))] (.bool false) (fun _ => by kernel_rfl) (fun w M => call_val (c_Less v h l v h' l' w M.laid) (congrArg Value.bool c6)) ?_
                refine k_val (want_on 7 true rfl 97 rfl (by kernel_rfl)) (some 104) rfl (.bool true) (fun _ => by kernel_rfl) ?_
                refine k_val (want_on 7 true rfl 97 rfl (by kernel_rfl)) (some 105) rfl (.bool true) (fun _ => by kernel_rfl) ?_
                refine k_load M (want_on 15 true rfl 105 rfl (by kernel_rfl)) (some 106) rfl 24 _ rfl 1 g2 0 (by kernel_rfl) 3 24 (ls [.bool (v), .int .u64 h', .int .u64 l']) rfl 3 (ls [.bool (v), .int .u64 h', .int .u64 l']) (fun j _ => by rw [Nat.zero_add]) (by decide) _ Tryz.underlying24 rfl inz24 ?_
                refine k_load M (want_on 15 true rfl 105 rfl (by kernel_rfl)) (some 107) rfl 24 _ rfl 0 g1 0 (by kernel_rfl) 3 24 (ls [.bool (v), .int .u64 h, .int .u64 l]) rfl 3 (ls [.bool (v), .int .u64 h, .int .u64 l]) (fun j _ => by rw [Nat.zero_add]) (by decide) _ Tryz.underlying24 rfl inz24 ?_
                refine k_call M (want_on 15 true rfl 105 rfl (by kernel_rfl)) (some 108) rfl 30 #[.agg (av 3 (ls [.bool (v), .int .u64 h', .int .u64 l'])), .agg (av 3 (ls [.bool (v), .int .u64 h, .int .u64 l]))] (.bool true) (fun _ => by kernel_rfl) (fun w M => call_val (c_Less v h' l' v h l w M.laid) (congrArg Value.bool (lS_yes (decide_eq_false c5) (lS_anti v h l h' l') c6))) ?_
                refine k_val (want_on 15 true rfl 105 rfl (by kernel_rfl)) (some 109) rfl (.bool false) (fun _ => by kernel_rfl) ?_
                refine k_val (want_on 7 true rfl 97 rfl (by kernel_rfl)) (some 110) rfl (.bool false) (fun _ => by kernel_rfl) ?_
                refine k_val (want_on 7 true rfl 97 rfl (by kernel_rfl)) (some 111) rfl (.bool true) (fun _ => by kernel_rfl) ?_
                refine k_val (want_no rfl) (some 112) rfl (.bool true) (fun _ => by kernel_rfl) ?_
                refine k_val (want_no rfl) (some 113) rfl (.bool true) (fun _ => by kernel_rfl) ?_
                refine k_call M (want_on 23 true rfl 113 rfl (by kernel_rfl)) (some 114) rfl 9 #[] (.bool true) (fun _ => by kernel_rfl) (fun w M => c_works w M.laid) ?_
                refine k_val (want_no rfl) (some 115) rfl (.bool true) (fun _ => by kernel_rfl) ?_
                refine kl_nil ?_
                intro u15 M
                replace M : Mem ⟨w, []⟩ [⟨g1, .cells (av 3 (ls [.bool (v), .int .u64 h, .int .u64 l])) 24⟩, ⟨g2, .cells (av 3 (ls [.bool (v), .int .u64 h', .int .u64 l'])) 24⟩, ⟨g3, .cells (av 4 (ls [.bool (v), .int .u64 (kH v h (md n v)), .int .u64 (kL v l (md n v) (wdt v)), .int .u8 (md n v)])) 39⟩, ⟨g4, .cells (av 4 (ls [.bool (v), .int .u64 (kH v h (md m v)), .int .u64 (kL v l (md m v) (wdt v)), .int .u8 (md m v)])) 39⟩, ⟨g5, .cells (av 4 (ls [.bool (v), .int .u64 (kH v h' (md m v)), .int .u64 (kL v l' (md m v) (wdt v)), .int .u8 (md m v)])) 39⟩] u15 := M
                refine pl_val (want_no rfl) (some 8) rfl (.bool true) (fun _ => by kernel_rfl) ?_
                refine pl_nil ?_
                refine au_then ?_
                refine wp_ret ?_
                exact bodyPost_ret (v := .bool true) (results_tmp1 Tryz.results7 _ _ _ (by kernel_rfl)) (by kernel_rfl) ⟨rfl, below_grown M.old⟩
        · skip
          refine pl_val (want_no rfl) (some 41) rfl (.bool false) (fun w => Eq.trans (b := .ok (.value (.bool (decide ((md n v) < (md m v))))) w) (by kernel_rfl) (by rw [decide_eq_false (c3)])) ?_
          refine pl_nil ?_
          refine au_then ?_
          refine wp_cond_false (by kernel_rfl) ?_
          refine wp_skip ?_
          refine au_then ?_
          refine wp_seq ?_
          refine rg_allocs M 12 [(10, fun g => .pointer (some ⟨g, 0, none⟩), .cells (av 4 (ls [.bool false, .int .u64 0, .int .u64 0, .int .u8 0])) 39), (11, fun g => .pointer (some ⟨g, 0, none⟩), .cells (av 4 (ls [.bool false, .int .u64 0, .int .u64 0, .int .u8 0])) 39), (12, fun g => .pointer (some ⟨g, 0, none⟩), .cells (av 4 (ls [.bool false, .int .u64 0, .int .u64 0, .int .u8 0])) 39)] (by kernel_rfl) (by kernel_rfl) (⟨rfl, rfl, fun _ _ => by kernel_rfl, ⟨rfl, rfl, fun _ _ => by kernel_rfl, ⟨rfl, rfl, fun _ _ => by kernel_rfl, trivial⟩⟩⟩) (by decide) ?_
          simp only [List.take_succ_cons, List.take_zero]
          refine k_load M (want_no rfl) (some 44) rfl 24 _ rfl 0 g1 0 (by kernel_rfl) 3 24 (ls [.bool (v), .int .u64 h, .int .u64 l]) rfl 3 (ls [.bool (v), .int .u64 h, .int .u64 l]) (fun j _ => by rw [Nat.zero_add]) (by decide) _ Tryz.underlying24 rfl inz24 ?_
          refine k_val (want_no rfl) (some 45) rfl (.int .u8 (md m v)) (fun _ => by kernel_rfl) ?_
          refine k_val (want_no rfl) (some 46) rfl (.int .u8 (wdt v)) (fun w => Eq.trans (b := .ok (.value (.int .u8 32)) w) (by kernel_rfl) (by rw [c0]; rfl)) ?_
          refine k_call M (want_no rfl) (some 47) rfl 32 #[.agg (av 3 (ls [.bool (v), .int .u64 h, .int .u64 l])), .int .u8 (md m v), .int .u8 (wdt v)] (.agg (av 4 (ls [.bool (v), .int .u64 (kH v h (md m v)), .int .u64 (kL v l (md m v) (wdt v)), .int .u8 (md m v)]))) (fun _ => by kernel_rfl) (fun w M => c_lcut v h l (md m v) (wdt v) (by omega) (by omega) rfl w M.laid) ?_
          refine k_load M (want_no rfl) (some 48) rfl 24 _ rfl 0 g1 0 (by kernel_rfl) 3 24 (ls [.bool (v), .int .u64 h, .int .u64 l]) rfl 3 (ls [.bool (v), .int .u64 h, .int .u64 l]) (fun j _ => by rw [Nat.zero_add]) (by decide) _ Tryz.underlying24 rfl inz24 ?_
          refine k_val (want_no rfl) (some 49) rfl (.int .u8 (md n v)) (fun _ => by kernel_rfl) ?_
          refine k_val (want_no rfl) (some 50) rfl (.int .u8 (wdt v)) (fun w => Eq.trans (b := .ok (.value (.int .u8 32)) w) (by kernel_rfl) (by rw [c0]; rfl)) ?_
          refine k_call M (want_no rfl) (some 51) rfl 32 #[.agg (av 3 (ls [.bool (v), .int .u64 h, .int .u64 l])), .int .u8 (md n v), .int .u8 (wdt v)] (.agg (av 4 (ls [.bool (v), .int .u64 (kH v h (md n v)), .int .u64 (kL v l (md n v) (wdt v)), .int .u8 (md n v)]))) (fun _ => by kernel_rfl) (fun w M => c_lcut v h l (md n v) (wdt v) (by omega) (by omega) rfl w M.laid) ?_
          refine k_load M (want_no rfl) (some 52) rfl 24 _ rfl 1 g2 0 (by kernel_rfl) 3 24 (ls [.bool (v), .int .u64 h', .int .u64 l']) rfl 3 (ls [.bool (v), .int .u64 h', .int .u64 l']) (fun j _ => by rw [Nat.zero_add]) (by decide) _ Tryz.underlying24 rfl inz24 ?_
          refine k_val (want_no rfl) (some 53) rfl (.int .u8 (md n v)) (fun _ => by kernel_rfl) ?_
          refine k_val (want_no rfl) (some 54) rfl (.int .u8 (wdt v)) (fun w => Eq.trans (b := .ok (.value (.int .u8 32)) w) (by kernel_rfl) (by rw [c0]; rfl)) ?_
          refine k_call M (want_no rfl) (some 55) rfl 32 #[.agg (av 3 (ls [.bool (v), .int .u64 h', .int .u64 l'])), .int .u8 (md n v), .int .u8 (wdt v)] (.agg (av 4 (ls [.bool (v), .int .u64 (kH v h' (md n v)), .int .u64 (kL v l' (md n v) (wdt v)), .int .u8 (md n v)]))) (fun _ => by kernel_rfl) (fun w M => c_lcut v h' l' (md n v) (wdt v) (by omega) (by omega) rfl w M.laid) ?_
          refine kl_nil ?_
          intro u6 g3 g4 g5 M
          replace M : Mem ⟨w, []⟩ [⟨g1, .cells (av 3 (ls [.bool (v), .int .u64 h, .int .u64 l])) 24⟩, ⟨g2, .cells (av 3 (ls [.bool (v), .int .u64 h', .int .u64 l'])) 24⟩, ⟨g3, .cells (av 4 (ls [.bool false, .int .u64 0, .int .u64 0, .int .u8 0])) 39⟩, ⟨g4, .cells (av 4 (ls [.bool false, .int .u64 0, .int .u64 0, .int .u8 0])) 39⟩, ⟨g5, .cells (av 4 (ls [.bool false, .int .u64 0, .int .u64 0, .int .u8 0])) 39⟩] u6 := M
          refine pl_put M (want_no rfl) rfl 39 _ _ rfl 2 g3 0 (by kernel_rfl) 4 39 (ls [.bool false, .int .u64 0, .int .u64 0, .int .u8 0]) rfl 4 (ls [.bool (v), .int .u64 (kH v h (md m v)), .int .u64 (kL v l (md m v) (wdt v)), .int .u8 (md m v)]) (ls [.bool (v), .int .u64 (kH v h (md m v)), .int .u64 (kL v l (md m v) (wdt v)), .int .u8 (md m v)]) (by kernel_rfl) inz39 (by decide) (one_ls _ rfl) (fun j hj => by rw [if_pos (by omega), Nat.sub_zero]) ?_
          intro u7 M
          replace M : Mem ⟨w, []⟩ [⟨g1, .cells (av 3 (ls [.bool (v), .int .u64 h, .int .u64 l])) 24⟩, ⟨g2, .cells (av 3 (ls [.bool (v), .int .u64 h', .int .u64 l'])) 24⟩, ⟨g3, .cells (av 4 (ls [.bool (v), .int .u64 (kH v h (md m v)), .int .u64 (kL v l (md m v) (wdt v)), .int .u8 (md m v)])) 39⟩, ⟨g4, .cells (av 4 (ls [.bool false, .int .u64 0, .int .u64 0, .int .u8 0])) 39⟩, ⟨g5, .cells (av 4 (ls [.bool false, .int .u64 0, .int .u64 0, .int .u8 0])) 39⟩] u7 := M
          refine pl_put M (want_no rfl) rfl 39 _ _ rfl 3 g4 0 (by kernel_rfl) 4 39 (ls [.bool false, .int .u64 0, .int .u64 0, .int .u8 0]) rfl 4 (ls [.bool (v), .int .u64 (kH v h (md n v)), .int .u64 (kL v l (md n v) (wdt v)), .int .u8 (md n v)]) (ls [.bool (v), .int .u64 (kH v h (md n v)), .int .u64 (kL v l (md n v) (wdt v)), .int .u8 (md n v)]) (by kernel_rfl) inz39 (by decide) (one_ls _ rfl) (fun j hj => by rw [if_pos (by omega), Nat.sub_zero]) ?_
          intro u8 M
          replace M : Mem ⟨w, []⟩ [⟨g1, .cells (av 3 (ls [.bool (v), .int .u64 h, .int .u64 l])) 24⟩, ⟨g2, .cells (av 3 (ls [.bool (v), .int .u64 h', .int .u64 l'])) 24⟩, ⟨g3, .cells (av 4 (ls [.bool (v), .int .u64 (kH v h (md m v)), .int .u64 (kL v l (md m v) (wdt v)), .int .u8 (md m v)])) 39⟩, ⟨g4, .cells (av 4 (ls [.bool (v), .int .u64 (kH v h (md n v)), .int .u64 (kL v l (md n v) (wdt v)), .int .u8 (md n v)])) 39⟩, ⟨g5, .cells (av 4 (ls [.bool false, .int .u64 0, .int .u64 0, .int .u8 0])) 39⟩] u8 := M
          refine pl_put M (want_no rfl) rfl 39 _ _ rfl 4 g5 0 (by kernel_rfl) 4 39 (ls [.bool false, .int .u64 0, .int .u64 0, .int .u8 0]) rfl 4 (ls [.bool (v), .int .u64 (kH v h' (md n v)), .int .u64 (kL v l' (md n v) (wdt v)), .int .u8 (md n v)]) (ls [.bool (v), .int .u64 (kH v h' (md n v)), .int .u64 (kL v l' (md n v) (wdt v)), .int .u8 (md n v)]) (by kernel_rfl) inz39 (by decide) (one_ls _ rfl) (fun j hj => by rw [if_pos (by omega), Nat.sub_zero]) ?_
          intro u9 M
          replace M : Mem ⟨w, []⟩ [⟨g1, .cells (av 3 (ls [.bool (v), .int .u64 h, .int .u64 l])) 24⟩, ⟨g2, .cells (av 3 (ls [.bool (v), .int .u64 h', .int .u64 l'])) 24⟩, ⟨g3, .cells (av 4 (ls [.bool (v), .int .u64 (kH v h (md m v)), .int .u64 (kL v l (md m v) (wdt v)), .int .u8 (md m v)])) 39⟩, ⟨g4, .cells (av 4 (ls [.bool (v), .int .u64 (kH v h (md n v)), .int .u64 (kL v l (md n v) (wdt v)), .int .u8 (md n v)])) 39⟩, ⟨g5, .cells (av 4 (ls [.bool (v), .int .u64 (kH v h' (md n v)), .int .u64 (kL v l' (md n v) (wdt v)), .int .u8 (md n v)])) 39⟩] u9 := M
          refine pl_nil ?_
          refine au_then ?_
          refine wp_seq ?_
          refine wp_seq ?_
          refine rg_lit ?_
          refine pl_load M (want_no rfl) (some 56) rfl 39 _ rfl 2 g3 0 (by kernel_rfl) 4 39 (ls [.bool (v), .int .u64 (kH v h (md m v)), .int .u64 (kL v l (md m v) (wdt v)), .int .u8 (md m v)]) rfl 4 (ls [.bool (v), .int .u64 (kH v h (md m v)), .int .u64 (kL v l (md m v) (wdt v)), .int .u8 (md m v)]) (fun j _ => by rw [Nat.zero_add]) (by decide) _ Tryz.underlying39 rfl inz39 ?_
          refine pl_call M (want_no rfl) (some 57) rfl 26 #[.agg (av 4 (ls [.bool (v), .int .u64 (kH v h (md m v)), .int .u64 (kL v l (md m v) (wdt v)), .int .u8 (md m v)]))] (.bool true) (fun _ => by kernel_rfl) (fun w M => call_val (c_MayPrefix v (kH v h (md m v)) (kL v l (md m v) (wdt v)) (md m v) (by omega) (by omega) w M.laid) (congrArg Value.bool (mP_cut v h l (md m v) h0 h1 l0 l1 hma (by omega) (by omega)))) ?_
          intro u10 M
          refine pl_val (want_no rfl) (some 58) rfl (.bool false) (fun _ => by kernel_rfl) ?_
          refine pl_val (want_no rfl) (some 59) rfl (.bool false) (fun _ => by kernel_rfl) ?_
          refine pl_load M (want_on 3 false rfl 59 rfl (by kernel_rfl)) (some 60) rfl 39 _ rfl 3 g4 0 (by kernel_rfl) 4 39 (ls [.bool (v), .int .u64 (kH v h (md n v)), .int .u64 (kL v l (md n v) (wdt v)), .int .u8 (md n v)]) rfl 4 (ls [.bool (v), .int .u64 (kH v h (md n v)), .int .u64 (kL v l (md n v) (wdt v)), .int .u8 (md n v)]) (fun j _ => by rw [Nat.zero_add]) (by decide) _ Tryz.underlying39 rfl inz39 ?_
          refine pl_call M (want_on 3 false rfl 59 rfl (by kernel_rfl)) (some 61) rfl 26 #[.agg (av 4 (ls [.bool (v), .int .u64 (kH v h (md n v)), .int .u64 (kL v l (md n v) (wdt v)), .int .u8 (md n v)]))] (.bool true) (fun _ => by kernel_rfl) (fun w M => call_val (c_MayPrefix v (kH v h (md n v)) (kL v l (md n v) (wdt v)) (md n v) (by omega) (by omega) w M.laid) (congrArg Value.bool (mP_cut v h l (md n v) h0 h1 l0 l1 hma (by omega) (by omega)))) ?_
          intro u11 M
          refine pl_val (want_on 3 false rfl 59 rfl (by kernel_rfl)) (some 62) rfl (.bool false) (fun _ => by kernel_rfl) ?_
          refine pl_val (want_no rfl) (some 63) rfl (.bool false) (fun _ => by kernel_rfl) ?_
          refine pl_val (want_no rfl) (some 64) rfl (.bool false) (fun _ => by kernel_rfl) ?_
          refine pl_load M (want_on 8 false rfl 64 rfl (by kernel_rfl)) (some 65) rfl 39 _ rfl 2 g3 0 (by kernel_rfl) 4 39 (ls [.bool (v), .int .u64 (kH v h (md m v)), .int .u64 (kL v l (md m v) (wdt v)), .int .u8 (md m v)]) rfl 4 (ls [.bool (v), .int .u64 (kH v h (md m v)), .int .u64 (kL v l (md m v) (wdt v)), .int .u8 (md m v)]) (fun j _ => by rw [Nat.zero_add]) (by decide) _ Tryz.underlying39 rfl inz39 ?_
          refine pl_load M (want_on 8 false rfl 64 rfl (by kernel_rfl)) (some 66) rfl 24 _ rfl 0 g1 0 (by kernel_rfl) 3 24 (ls [.bool (v), .int .u64 h, .int .u64 l]) rfl 3 (ls [.bool (v), .int .u64 h, .int .u64 l]) (fun j _ => by rw [Nat.zero_add]) (by decide) _ Tryz.underlying24 rfl inz24 ?_
          refine pl_call M (want_on 8 false rfl 64 rfl (by kernel_rfl)) (some 67) rfl 28 #[.agg (av 4 (ls [.bool (v), .int .u64 (kH v h (md m v)), .int .u64 (kL v l (md m v) (wdt v)), .int .u8 (md m v)])), .agg (av 3 (ls [.bool (v), .int .u64 h, .int .u64 l]))] (.bool true) (fun _ => by kernel_rfl) (fun w M => call_val (c_Holds v (kH v h (md m v)) (kL v l (md m v) (wdt v)) (md m v) (by omega) (by omega) v h l w M.laid) (congrArg Value.bool (hO_own v h l (md m v) h0 h1 l0 l1 hma (by omega) (by omega)))) ?_
          intro u12 M
          refine pl_val (want_on 8 false rfl 64 rfl (by kernel_rfl)) (some 68) rfl (.bool false) (fun _ => by kernel_rfl) ?_
          refine pl_val (want_no rfl) (some 69) rfl (.bool false) (fun _ => by kernel_rfl) ?_
          refine pl_val (want_no rfl) (some 70) rfl (.bool false) (fun _ => by kernel_rfl) ?_
          refine pl_load M (want_on 14 false rfl 70 rfl (by kernel_rfl)) (some 71) rfl 39 _ rfl 3 g4 0 (by kernel_rfl) 4 39 (ls [.bool (v), .int .u64 (kH v h (md n v)), .int .u64 (kL v l (md n v) (wdt v)), .int .u8 (md n v)]) rfl 4 (ls [.bool (v), .int .u64 (kH v h (md n v)), .int .u64 (kL v l (md n v) (wdt v)), .int .u8 (md n v)]) (fun j _ => by rw [Nat.zero_add]) (by decide) _ Tryz.underlying39 rfl inz39 ?_
          refine pl_load M (want_on 14 false rfl 70 rfl (by kernel_rfl)) (some 72) rfl 24 _ rfl 0 g1 0 (by kernel_rfl) 3 24 (ls [.bool (v), .int .u64 h, .int .u64 l]) rfl 3 (ls [.bool (v), .int .u64 h, .int .u64 l]) (fun j _ => by rw [Nat.zero_add]) (by decide) _ Tryz.underlying24 rfl inz24 ?_
          refine pl_call M (want_on 14 false rfl 70 rfl (by kernel_rfl)) (some 73) rfl 28 #[.agg (av 4 (ls [.bool (v), .int .u64 (kH v h (md n v)), .int .u64 (kL v l (md n v) (wdt v)), .int .u8 (md n v)])), .agg (av 3 (ls [.bool (v), .int .u64 h, .int .u64 l]))] (.bool true) (fun _ => by kernel_rfl) (fun w M => call_val (c_Holds v (kH v h (md n v)) (kL v l (md n v) (wdt v)) (md n v) (by omega) (by omega) v h l w M.laid) (congrArg Value.bool (hO_own v h l (md n v) h0 h1 l0 l1 hma (by omega) (by omega)))) ?_
          intro u13 M
          refine pl_val (want_on 14 false rfl 70 rfl (by kernel_rfl)) (some 74) rfl (.bool false) (fun _ => by kernel_rfl) ?_
          refine pl_val (want_no rfl) (some 75) rfl (.bool false) (fun _ => by kernel_rfl) ?_
          refine pl_nil ?_
          refine au_then ?_
          refine wp_cond_false (by kernel_rfl) ?_
          refine wp_skip ?_
          refine au_then ?_
          refine wp_seq ?_
          refine wp_seq ?_
          refine rg_lit ?_
          refine pl_load M (want_no rfl) (some 76) rfl 39 _ rfl 3 g4 0 (by kernel_rfl) 4 39 (ls [.bool (v), .int .u64 (kH v h (md n v)), .int .u64 (kL v l (md n v) (wdt v)), .int .u8 (md n v)]) rfl 4 (ls [.bool (v), .int .u64 (kH v h (md n v)), .int .u64 (kL v l (md n v) (wdt v)), .int .u8 (md n v)]) (fun j _ => by rw [Nat.zero_add]) (by decide) _ Tryz.underlying39 rfl inz39 ?_
          refine pl_load M (want_no rfl) (some 77) rfl 24 _ rfl 1 g2 0 (by kernel_rfl) 3 24 (ls [.bool (v), .int .u64 h', .int .u64 l']) rfl 3 (ls [.bool (v), .int .u64 h', .int .u64 l']) (fun j _ => by rw [Nat.zero_add]) (by decide) _ Tryz.underlying24 rfl inz24 ?_
          rcases Bool.eq_false_or_eq_true (hO v (kH v h (md n v)) (kL v l (md n v) (wdt v)) (md n v) v h' l') with c4 | c4
          · skip
            refine pl_call M (want_no rfl) (some 78) rfl 28 #[.agg (av 4 (ls [.bool (v), .int .u64 (kH v h (md n v)), .int .u64 (kL v l (md n v) (wdt v)), .int .u8 (md n v)])), .agg (av 3 (ls [.bool (v), .int .u64 h', .int .u64 l']))] (.bool true) (fun _ => by kernel_rfl) (fun w M => call_val (c_Holds v (kH v h (md n v)) (kL v l (md n v) (wdt v)) (md n v) (by omega) (by omega) v h' l' w M.laid) (congrArg Value.bool c4)) ?_
            intro u14 M
            refine pl_val (want_no rfl) (some 79) rfl (.bool true) (fun _ => by kernel_rfl) ?_
            refine pl_load M (want_on 3 true rfl 79 rfl (by kernel_rfl)) (some 80) rfl 39 _ rfl 2 g3 0 (by kernel_rfl) 4 39 (ls [.bool (v), .int .u64 (kH v h (md m v)), .int .u64 (kL v l (md m v) (wdt v)), .int .u8 (md m v)]) rfl 4 (ls [.bool (v), .int .u64 (kH v h (md m v)), .int .u64 (kL v l (md m v) (wdt v)), .int .u8 (md m v)]) (fun j _ => by rw [Nat.zero_add]) (by decide) _ Tryz.underlying39 rfl inz39 ?_
            refine pl_load M (want_on 3 true rfl 79 rfl (by kernel_rfl)) (some 81) rfl 24 _ rfl 1 g2 0 (by kernel_rfl) 3 24 (ls [.bool (v), .int .u64 h', .int .u64 l']) rfl 3 (ls [.bool (v), .int .u64 h', .int .u64 l']) (fun j _ => by rw [Nat.zero_add]) (by decide) _ Tryz.underlying24 rfl inz24 ?_
            refine pl_call M (want_on 3 true rfl 79 rfl (by kernel_rfl)) (some 82) rfl 28 #[.agg (av 4 (ls [.bool (v), .int .u64 (kH v h (md m v)), .int .u64 (kL v l (md m v) (wdt v)), .int .u8 (md m v)])), .agg (av 3 (ls [.bool (v), .int .u64 h', .int .u64 l']))] (.bool true) (fun _ => by kernel_rfl) (fun w M => call_val (c_Holds v (kH v h (md m v)) (kL v l (md m v) (wdt v)) (md m v) (by omega) (by omega) v h' l' w M.laid) (congrArg Value.bool (hO_short v h l h0 h1 l0 l1 hma h' l' p0 p1 k0 k1 hmb (md m v) (md n v) (by omega) (by omega) (by omega) c4))) ?_
            intro u15 M
            refine pl_val (want_on 3 true rfl 79 rfl (by kernel_rfl)) (some 83) rfl (.bool false) (fun _ => by kernel_rfl) ?_
            refine pl_val (want_on 3 true rfl 79 rfl (by kernel_rfl)) (some 84) rfl (.bool false) (fun _ => by kernel_rfl) ?_
            refine pl_load M (want_on 8 false rfl 84 rfl (by kernel_rfl)) (some 85) rfl 39 _ rfl 4 g5 0 (by kernel_rfl) 4 39 (ls [.bool (v), .int .u64 (kH v h' (md n v)), .int .u64 (kL v l' (md n v) (wdt v)), .int .u8 (md n v)]) rfl 4 (ls [.bool (v), .int .u64 (kH v h' (md n v)), .int .u64 (kL v l' (md n v) (wdt v)), .int .u8 (md n v)]) (fun j _ => by rw [Nat.zero_add]) (by decide) _ Tryz.underlying39 rfl inz39 ?_
            refine pl_load M (want_on 8 false rfl 84 rfl (by kernel_rfl)) (some 86) rfl 39 _ rfl 3 g4 0 (by kernel_rfl) 4 39 (ls [.bool (v), .int .u64 (kH v h (md n v)), .int .u64 (kL v l (md n v) (wdt v)), .int .u8 (md n v)]) rfl 4 (ls [.bool (v), .int .u64 (kH v h (md n v)), .int .u64 (kL v l (md n v) (wdt v)), .int .u8 (md n v)]) (fun j _ => by rw [Nat.zero_add]) (by decide) _ Tryz.underlying39 rfl inz39 ?_
            refine pl_val (want_on 8 false rfl 84 rfl (by kernel_rfl)) (some 87) rfl (.bool false) (fun w => (neq39 v v (kH v h' (md n v)) (kH v h (md n v)) (kL v l' (md n v) (wdt v)) (kL v l (md n v) (wdt v)) (md n v) (md n v) _ _ rfl (by kernel_rfl) (by kernel_rfl) w).trans (by rw [hO_other v h l h0 h1 l0 l1 hma h' l' p0 p1 k0 k1 hmb (md m v) (md n v) (by omega) (by omega) (by omega), c4]; rfl)) ?_
            refine pl_val (want_on 3 true rfl 79 rfl (by kernel_rfl)) (some 88) rfl (.bool false) (fun _ => by kernel_rfl) ?_
            refine pl_val (want_no rfl) (some 89) rfl (.bool false) (fun _ => by kernel_rfl) ?_
            refine pl_nil ?_
            refine au_then ?_
            refine wp_cond_false (by kernel_rfl) ?_
            refine wp_skip ?_
            refine au_then ?_
            refine wp_seq ?_
            refine rg_tail M 26 (by kernel_rfl) (by kernel_rfl) ?_
            simp only [List.take_succ_cons, List.take_zero]
            refine k_load M (want_no rfl) (some 90) rfl 39 _ rfl 3 g4 0 (by kernel_rfl) 4 39 (ls [.bool (v), .int .u64 (kH v h (md n v)), .int .u64 (kL v l (md n v) (wdt v)), .int .u8 (md n v)]) rfl 4 (ls [.bool (v), .int .u64 (kH v h (md n v)), .int .u64 (kL v l (md n v) (wdt v)), .int .u8 (md n v)]) (fun j _ => by rw [Nat.zero_add]) (by decide) _ Tryz.underlying39 rfl inz39 ?_
            refine k_load M (want_no rfl) (some 91) rfl 24 _ rfl 1 g2 0 (by kernel_rfl) 3 24 (ls [.bool (v), .int .u64 h', .int .u64 l']) rfl 3 (ls [.bool (v), .int .u64 h', .int .u64 l']) (fun j _ => by rw [Nat.zero_add]) (by decide) _ Tryz.underlying24 rfl inz24 ?_
            refine k_call M (want_no rfl) (some 92) rfl 28 #[.agg (av 4 (ls [.bool (v), .int .u64 (kH v h (md n v)), .int .u64 (kL v l (md n v) (wdt v)), .int .u8 (md n v)])), .agg (av 3 (ls [.bool (v), .int .u64 h', .int .u64 l']))] (.bool true) (fun _ => by kernel_rfl) (fun w M => call_val (c_Holds v (kH v h (md n v)) (kL v l (md n v) (wdt v)) (md n v) (by omega) (by omega) v h' l' w M.laid) (congrArg Value.bool c4)) ?_
            refine k_load M (want_no rfl) (some 93) rfl 39 _ rfl 4 g5 0 (by kernel_rfl) 4 39 (ls [.bool (v), .int .u64 (kH v h' (md n v)), .int .u64 (kL v l' (md n v) (wdt v)), .int .u8 (md n v)]) rfl 4 (ls [.bool (v), .int .u64 (kH v h' (md n v)), .int .u64 (kL v l' (md n v) (wdt v)), .int .u8 (md n v)]) (fun j _ => by rw [Nat.zero_add]) (by decide) _ Tryz.underlying39 rfl inz39 ?_
            refine k_load M (want_no rfl) (some 94) rfl 39 _ rfl 3 g4 0 (by kernel_rfl) 4 39 (ls [.bool (v), .int .u64 (kH v h (md n v)), .int .u64 (kL v l (md n v) (wdt v)), .int .u8 (md n v)]) rfl 4 (ls [.bool (v), .int .u64 (kH v h (md n v)), .int .u64 (kL v l (md n v) (wdt v)), .int .u8 (md n v)]) (fun j _ => by rw [Nat.zero_add]) (by decide) _ Tryz.underlying39 rfl inz39 ?_
            refine k_val (want_no rfl) (some 95) rfl (.bool true) (fun w => (eql39 v v (kH v h' (md n v)) (kH v h (md n v)) (kL v l' (md n v) (wdt v)) (kL v l (md n v) (wdt v)) (md n v) (md n v) _ _ rfl (by kernel_rfl) (by kernel_rfl) w).trans (by rw [hO_other v h l h0 h1 l0 l1 hma h' l' p0 p1 k0 k1 hmb (md m v) (md n v) (by omega) (by omega) (by omega), c4])) ?_
            refine k_val (want_no rfl) (some 96) rfl (.bool true) (fun _ => by kernel_rfl) ?_
            refine k_val (want_no rfl) (some 97) rfl (.bool true) (fun _ => by kernel_rfl) ?_
            refine k_load M (want_on 7 true rfl 97 rfl (by kernel_rfl)) (some 98) rfl 24 _ rfl 0 g1 0 (by kernel_rfl) 3 24 (ls [.bool (v), .int .u64 h, .int .u64 l]) rfl 3 (ls [.bool (v), .int .u64 h, .int .u64 l]) (fun j _ => by rw [Nat.zero_add]) (by decide) _ Tryz.underlying24 rfl inz24 ?_
            refine k_load M (want_on 7 true rfl 97 rfl (by kernel_rfl)) (some 99) rfl 24 _ rfl 1 g2 0 (by kernel_rfl) 3 24 (ls [.bool (v), .int .u64 h', .int .u64 l']) rfl 3 (ls [.bool (v), .int .u64 h', .int .u64 l']) (fun j _ => by rw [Nat.zero_add]) (by decide) _ Tryz.underlying24 rfl inz24 ?_
            by_cases c5 : v = v ∧ h = h' ∧ l = l'
            · skip
              refine k_val (want_on 7 true rfl 97 rfl (by kernel_rfl)) (some 100) rfl (.bool true) (fun w => (eql24 v v h h' l l' _ _ rfl (by kernel_rfl) (by kernel_rfl) w).trans (by rw [decide_eq_true c5])) ?_
              refine k_load M (want_on 7 true rfl 97 rfl (by kernel_rfl)) (some 101) rfl 24 _ rfl 0 g1 0 (by kernel_rfl) 3 24 (ls [.bool (v), .int .u64 h, .int .u64 l]) rfl 3 (ls [.bool (v), .int .u64 h, .int .u64 l]) (fun j _ => by rw [Nat.zero_add]) (by decide) _ Tryz.underlying24 rfl inz24 ?_
              refine k_load M (want_on 7 true rfl 97 rfl (by kernel_rfl)) (some 102) rfl 24 _ rfl 1 g2 0 (by kernel_rfl) 3 24 (ls [.bool (v), .int .u64 h', .int .u64 l']) rfl 3 (ls [.bool (v), .int .u64 h', .int .u64 l']) (fun j _ => by rw [Nat.zero_add]) (by decide) _ Tryz.underlying24 rfl inz24 ?_
              refine k_call M (want_on 7 true rfl 97 rfl (by kernel_rfl)) (some 103) rfl 30 #[.agg (av 3 (ls [.bool (v), .int .u64 h, .int .u64 l])), .agg (av 3 (ls [.bool (v), .int .u64 h', .int .u64 l']))] (.bool false) (fun _ => by kernel_rfl) (fun w M => call_val (c_Less v h l v h' l' w M.laid) (congrArg Value.bool (lS_no (decide_eq_true c5) (lS_anti v h l h' l')).1)) ?_
              refine k_val (want_on 7 true rfl 97 rfl (by kernel_rfl)) (some 104) rfl (.bool true) (fun _ => by kernel_rfl) ?_
              refine k_val (want_on 7 true rfl 97 rfl (by kernel_rfl)) (some 105) rfl (.bool true) (fun _ => by kernel_rfl) ?_
              refine k_load M (want_on 15 true rfl 105 rfl (by kernel_rfl)) (some 106) rfl 24 _ rfl 1 g2 0 (by kernel_rfl) 3 24 (ls [.bool (v), .int .u64 h', .int .u64 l']) rfl 3 (ls [.bool (v), .int .u64 h', .int .u64 l']) (fun j _ => by rw [Nat.zero_add]) (by decide) _ Tryz.underlying24 rfl inz24 ?_
              refine k_load M (want_on 15 true rfl 105 rfl (by kernel_rfl)) (some 107) rfl 24 _ rfl 0 g1 0 (by kernel_rfl) 3 24 (ls [.bool (v), .int .u64 h, .int .u64 l]) rfl 3 (ls [.bool (v), .int .u64 h, .int .u64 l]) (fun j _ => by rw [Nat.zero_add]) (by decide) _ Tryz.underlying24 rfl inz24 ?_
              refine k_call M (want_on 15 true rfl 105 rfl (by kernel_rfl)) (some 108) rfl 30 #[.agg (av 3 (ls [.bool (v), .int .u64 h', .int .u64 l'])), .agg (av 3 (ls [.bool (v), .int .u64 h, .int .u64 l]))] (.bool false) (fun _ => by kernel_rfl) (fun w M => call_val (c_Less v h' l' v h l w M.laid) (congrArg Value.bool (lS_no (decide_eq_true c5) (lS_anti v h l h' l')).2)) ?_
              refine k_val (want_on 15 true rfl 105 rfl (by kernel_rfl)) (some 109) rfl (.bool true) (fun _ => by kernel_rfl) ?_
              refine k_val (want_on 7 true rfl 97 rfl (by kernel_rfl)) (some 110) rfl (.bool true) (fun _ => by kernel_rfl) ?_
              refine k_val (want_on 7 true rfl 97 rfl (by kernel_rfl)) (some 111) rfl (.bool true) (fun _ => by kernel_rfl) ?_
              refine k_val (want_no rfl) (some 112) rfl (.bool true) (fun _ => by kernel_rfl) ?_
              refine k_val (want_no rfl) (some 113) rfl (.bool true) (fun _ => by kernel_rfl) ?_
              refine k_call M (want_on 23 true rfl 113 rfl (by kernel_rfl)) (some 114) rfl 9 #[] (.bool true) (fun _ => by kernel_rfl) (fun w M => c_works w M.laid) ?_
              refine k_val (want_no rfl) (some 115) rfl (.bool true) (fun _ => by kernel_rfl) ?_
              refine kl_nil ?_
              intro u16 M
              replace M : Mem ⟨w, []⟩ [⟨g1, .cells (av 3 (ls [.bool (v), .int .u64 h, .int .u64 l])) 24⟩, ⟨g2, .cells (av 3 (ls [.bool (v), .int .u64 h', .int .u64 l'])) 24⟩, ⟨g3, .cells (av 4 (ls [.bool (v), .int .u64 (kH v h (md m v)), .int .u64 (kL v l (md m v) (wdt v)), .int .u8 (md m v)])) 39⟩, ⟨g4, .cells (av 4 (ls [.bool (v), .int .u64 (kH v h (md n v)), .int .u64 (kL v l (md n v) (wdt v)), .int .u8 (md n v)])) 39⟩, ⟨g5, .cells (av 4 (ls [.bool (v), .int .u64 (kH v h' (md n v)), .int .u64 (kL v l' (md n v) (wdt v)), .int .u8 (md n v)])) 39⟩] u16 := M
              refine pl_val (want_no rfl) (some 8) rfl (.bool true) (fun _ => by kernel_rfl) ?_
              refine pl_nil ?_
              refine au_then ?_
              refine wp_ret ?_
              exact bodyPost_ret (v := .bool true) (results_tmp1 Tryz.results7 _ _ _ (by kernel_rfl)) (by kernel_rfl) ⟨rfl, below_grown M.old⟩
            · skip
              refine k_val (want_on 7 true rfl 97 rfl (by kernel_rfl)) (some 100) rfl (.bool false) (fun w => (eql24 v v h h' l l' _ _ rfl (by kernel_rfl) (by kernel_rfl) w).trans (by rw [decide_eq_false c5])) ?_
              refine k_load M (want_on 7 true rfl 97 rfl (by kernel_rfl)) (some 101) rfl 24 _ rfl 0 g1 0 (by kernel_rfl) 3 24 (ls [.bool (v), .int .u64 h, .int .u64 l]) rfl 3 (ls [.bool (v), .int .u64 h, .int .u64 l]) (fun j _ => by rw [Nat.zero_add]) (by decide) _ Tryz.underlying24 rfl inz24 ?_
              refine k_load M (want_on 7 true rfl 97 rfl (by kernel_rfl)) (some 102) rfl 24 _ rfl 1 g2 0 (by kernel_rfl) 3 24 (ls [.bool (v), .int .u64 h', .int .u64 l']) rfl 3 (ls [.bool (v), .int .u64 h', .int .u64 l']) (fun j _ => by rw [Nat.zero_add]) (by decide) _ Tryz.underlying24 rfl inz24 ?_
              rcases Bool.eq_false_or_eq_true (lS v h l v h' l') with c6 | c6
              · skip
                refine k_call M (want_on 7 true rfl 97 rfl (by kernel_rfl)) (some 103) rfl 30 #[.agg (av 3 (ls [.bool (v), .int .u64 h, .int .u64 l])), .agg (av 3 (ls [.bool (v), .int .u64 h', .int .u64 l']))] (.bool true) (fun _ => by kernel_rfl) (fun w M => call_val (c_Less v h l v h' l' w M.laid) (congrArg Value.bool c6)) ?_
                refine k_val (want_on 7 true rfl 97 rfl (by kernel_rfl)) (some 104) rfl (.bool false) (fun _ => by kernel_rfl) ?_
                refine k_val (want_on 7 true rfl 97 rfl (by kernel_rfl)) (some 105) rfl (.bool false) (fun _ => by kernel_rfl) ?_
                refine k_skip (want_off 15 true rfl 105 rfl (by kernel_rfl)) (some 106) rfl ?_
                refine k_skip (want_off 15 true rfl 105 rfl (by kernel_rfl)) (some 107) rfl ?_
                refine k_skip (want_off 15 true rfl 105 rfl (by kernel_rfl)) (some 108) rfl ?_
                refine k_skip (want_off 15 true rfl 105 rfl (by kernel_rfl)) (some 109) rfl ?_
                refine k_val (want_on 7 true rfl 97 rfl (by kernel_rfl)) (some 110) rfl (.bool false) (fun _ => by kernel_rfl) ?_
                refine k_val (want_on 7 true rfl 97 rfl (by kernel_rfl)) (some 111) rfl (.bool true) (fun _ => by kernel_rfl) ?_
                refine k_val (want_no rfl) (some 112) rfl (.bool true) (fun _ => by kernel_rfl) ?_
                refine k_val (want_no rfl) (some 113) rfl (.bool true) (fun _ => by kernel_rfl) ?_
                refine k_call M (want_on 23 true rfl 113 rfl (by kernel_rfl)) (some 114) rfl 9 #[] (.bool true) (fun _ => by kernel_rfl) (fun w M => c_works w M.laid) ?_
                refine k_val (want_no rfl) (some 115) rfl (.bool true) (fun _ => by kernel_rfl) ?_
                refine kl_nil ?_
                intro u16 M
                replace M : Mem ⟨w, []⟩ [⟨g1, .cells (av 3 (ls [.bool (v), .int .u64 h, .int .u64 l])) 24⟩, ⟨g2, .cells (av 3 (ls [.bool (v), .int .u64 h', .int .u64 l'])) 24⟩, ⟨g3, .cells (av 4 (ls [.bool (v), .int .u64 (kH v h (md m v)), .int .u64 (kL v l (md m v) (wdt v)), .int .u8 (md m v)])) 39⟩, ⟨g4, .cells (av 4 (ls [.bool (v), .int .u64 (kH v h (md n v)), .int .u64 (kL v l (md n v) (wdt v)), .int .u8 (md n v)])) 39⟩, ⟨g5, .cells (av 4 (ls [.bool (v), .int .u64 (kH v h' (md n v)), .int .u64 (kL v l' (md n v) (wdt v)), .int .u8 (md n v)])) 39⟩] u16 := M
                refine pl_val (want_no rfl) (some 8) rfl (.bool true) (fun _ => by kernel_rfl) ?_
                refine pl_nil ?_
                refine au_then ?_
                refine wp_ret ?_
                exact bodyPost_ret (v := .bool true) (results_tmp1 Tryz.results7 _ _ _ (by kernel_rfl)) (by kernel_rfl) ⟨rfl, below_grown M.old⟩
              · skip
                refine k_call M (want_on 7 true rfl 97 rfl (by kernel_rfl)) (some 103) rfl 30 #[.agg (av 3 (ls [.bool (v), .int .u64 h, .int .u64 l])), .agg (av 3 (ls [.bool (v), .int .u64 h', .int .u64 l']))] (.bool false) (fun _ => by kernel_rfl) (fun w M => call_val (c_Less v h l v h' l' w M.laid) (congrArg Value.bool c6)) ?_
                refine k_val (want_on 7 true rfl 97 rfl (by kernel_rfl)) (some 104) rfl (.bool true) (fun _ => by kernel_rfl) ?_
                refine k_val (want_on 7 true rfl 97 rfl (by kernel_rfl)) (some 105) rfl (.bool true) (fun _ => by kernel_rfl) ?_
                refine k_load M (want_on 15 true rfl 105 rfl (by kernel_rfl)) (some 106) rfl 24 _ rfl 1 g2 0 (by kernel_rfl) 3 24 (ls [.bool (v), .int .u64 h', .int .u64 l']) rfl 3 (ls [.bool (v), .int .u64 h', .int .u64 l']) (fun j _ => by rw [Nat.zero_add]) (by decide) _ Tryz.underlying24 rfl inz24 ?_
                refine k_load M (want_on 15 true rfl 105 rfl (by kernel_rfl)) (some 107) rfl 24 _ rfl 0 g1 0 (by kernel_rfl) 3 24 (ls [.bool (v), .int .u64 h, .int .u64 l]) rfl 3 (ls [.bool (v), .int .u64 h, .int .u64 l]) (fun j _ => by rw [Nat.zero_add]) (by decide) _ Tryz.underlying24 rfl inz24 ?_
                refine k_call M (want_on 15 true rfl 105 rfl (by kernel_rfl)) (some 108) rfl 30 #[.agg (av 3 (ls [.bool (v), .int .u64 h', .int .u64 l'])), .agg (av 3 (ls [.bool (v), .int .u64 h, .int .u64 l]))] (.bool true) (fun _ => by kernel_rfl) (fun w M => call_val (c_Less v h' l' v h l w M.laid) (congrArg Value.bool (lS_yes (decide_eq_false c5) (lS_anti v h l h' l') c6))) ?_
                refine k_val (want_on 15 true rfl 105 rfl (by kernel_rfl)) (some 109) rfl (.bool false) (fun _ => by kernel_rfl) ?_
                refine k_val (want_on 7 true rfl 97 rfl (by kernel_rfl)) (some 110) rfl (.bool false) (fun _ => by kernel_rfl) ?_
                refine k_val (want_on 7 true rfl 97 rfl (by kernel_rfl)) (some 111) rfl (.bool true) (fun _ => by kernel_rfl) ?_
                refine k_val (want_no rfl) (some 112) rfl (.bool true) (fun _ => by kernel_rfl) ?_
                refine k_val (want_no rfl) (some 113) rfl (.bool true) (fun _ => by kernel_rfl) ?_
                refine k_call M (want_on 23 true rfl 113 rfl (by kernel_rfl)) (some 114) rfl 9 #[] (.bool true) (fun _ => by kernel_rfl) (fun w M => c_works w M.laid) ?_
                refine k_val (want_no rfl) (some 115) rfl (.bool true) (fun _ => by kernel_rfl) ?_
                refine kl_nil ?_
                intro u16 M
                replace M : Mem ⟨w, []⟩ [⟨g1, .cells (av 3 (ls [.bool (v), .int .u64 h, .int .u64 l])) 24⟩, ⟨g2, .cells (av 3 (ls [.bool (v), .int .u64 h', .int .u64 l'])) 24⟩, ⟨g3, .cells (av 4 (ls [.bool (v), .int .u64 (kH v h (md m v)), .int .u64 (kL v l (md m v) (wdt v)), .int .u8 (md m v)])) 39⟩, ⟨g4, .cells (av 4 (ls [.bool (v), .int .u64 (kH v h (md n v)), .int .u64 (kL v l (md n v) (wdt v)), .int .u8 (md n v)])) 39⟩, ⟨g5, .cells (av 4 (ls [.bool (v), .int .u64 (kH v h' (md n v)), .int .u64 (kL v l' (md n v) (wdt v)), .int .u8 (md n v)])) 39⟩] u16 := M
                refine pl_val (want_no rfl) (some 8) rfl (.bool true) (fun _ => by kernel_rfl) ?_
                refine pl_nil ?_
                refine au_then ?_
                refine wp_ret ?_
                exact bodyPost_ret (v := .bool true) (results_tmp1 Tryz.results7 _ _ _ (by kernel_rfl)) (by kernel_rfl) ⟨rfl, below_grown M.old⟩
          · skip
            refine pl_call M (want_no rfl) (some 78) rfl 28 #[.agg (av 4 (ls [.bool (v), .int .u64 (kH v h (md n v)), .int .u64 (kL v l (md n v) (wdt v)), .int .u8 (md n v)])), .agg (av 3 (ls [.bool (v), .int .u64 h', .int .u64 l']))] (.bool false) (fun _ => by kernel_rfl) (fun w M => call_val (c_Holds v (kH v h (md n v)) (kL v l (md n v) (wdt v)) (md n v) (by omega) (by omega) v h' l' w M.laid) (congrArg Value.bool c4)) ?_
            intro u14 M
            refine pl_val (want_no rfl) (some 79) rfl (.bool false) (fun _ => by kernel_rfl) ?_
            refine pl_skip (want_off 3 true rfl 79 rfl (by kernel_rfl)) (some 80) rfl ?_
            refine pl_skip (want_off 3 true rfl 79 rfl (by kernel_rfl)) (some 81) rfl ?_
            refine pl_skip (want_off 3 true rfl 79 rfl (by kernel_rfl)) (some 82) rfl ?_
            refine pl_skip (want_off 3 true rfl 79 rfl (by kernel_rfl)) (some 83) rfl ?_
            refine pl_skip (want_off 3 true rfl 79 rfl (by kernel_rfl)) (some 84) rfl ?_
            refine pl_skip (want_und 8 false rfl 84 rfl (by kernel_rfl)) (some 85) rfl ?_
            refine pl_skip (want_und 8 false rfl 84 rfl (by kernel_rfl)) (some 86) rfl ?_
            refine pl_skip (want_und 8 false rfl 84 rfl (by kernel_rfl)) (some 87) rfl ?_
            refine pl_skip (want_off 3 true rfl 79 rfl (by kernel_rfl)) (some 88) rfl ?_
            refine pl_val (want_no rfl) (some 89) rfl (.bool false) (fun _ => by kernel_rfl) ?_
            refine pl_nil ?_
            refine au_then ?_
            refine wp_cond_false (by kernel_rfl) ?_
            refine wp_skip ?_
            refine au_then ?_
            refine wp_seq ?_
            refine rg_tail M 26 (by kernel_rfl) (by kernel_rfl) ?_
            simp only [List.take_succ_cons, List.take_zero]
            refine k_load M (want_no rfl) (some 90) rfl 39 _ rfl 3 g4 0 (by kernel_rfl) 4 39 (ls [.bool (v), .int .u64 (kH v h (md n v)), .int .u64 (kL v l (md n v) (wdt v)), .int .u8 (md n v)]) rfl 4 (ls [.bool (v), .int .u64 (kH v h (md n v)), .int .u64 (kL v l (md n v) (wdt v)), .int .u8 (md n v)]) (fun j _ => by rw [Nat.zero_add]) (by decide) _ Tryz.underlying39 rfl inz39 ?_
            refine k_load M (want_no rfl) (some 91) rfl 24 _ rfl 1 g2 0 (by kernel_rfl) 3 24 (ls [.bool (v), .int .u64 h', .int .u64 l']) rfl 3 (ls [.bool (v), .int .u64 h', .int .u64 l']) (fun j _ => by rw [Nat.zero_add]) (by decide) _ Tryz.underlying24 rfl inz24 ?_
            refine k_call M (want_no rfl) (some 92) rfl 28 #[.agg (av 4 (ls [.bool (v), .int .u64 (kH v h (md n v)), .int .u64 (kL v l (md n v) (wdt v)), .int .u8 (md n v)])), .agg (av 3 (ls [.bool (v), .int .u64 h', .int .u64 l']))] (.bool false) (fun _ => by kernel_rfl) (fun w M => call_val (c_Holds v (kH v h (md n v)) (kL v l (md n v) (wdt v)) (md n v) (by omega) (by omega) v h' l' w M.laid) (congrArg Value.bool c4)) ?_
            refine k_load M (want_no rfl) (some 93) rfl 39 _ rfl 4 g5 0 (by kernel_rfl) 4 39 (ls [.bool (v), .int .u64 (kH v h' (md n v)), .int .u64 (kL v l' (md n v) (wdt v)), .int .u8 (md n v)]) rfl 4 (ls [.bool (v), .int .u64 (kH v h' (md n v)), .int .u64 (kL v l' (md n v) (wdt v)), .int .u8 (md n v)]) (fun j _ => by rw [Nat.zero_add]) (by decide) _ Tryz.underlying39 rfl inz39 ?_
            refine k_load M (want_no rfl) (some 94) rfl 39 _ rfl 3 g4 0 (by kernel_rfl) 4 39 (ls [.bool (v), .int .u64 (kH v h (md n v)), .int .u64 (kL v l (md n v) (wdt v)), .int .u8 (md n v)]) rfl 4 (ls [.bool (v), .int .u64 (kH v h (md n v)), .int .u64 (kL v l (md n v) (wdt v)), .int .u8 (md n v)]) (fun j _ => by rw [Nat.zero_add]) (by decide) _ Tryz.underlying39 rfl inz39 ?_
            refine k_val (want_no rfl) (some 95) rfl (.bool false) (fun w => (eql39 v v (kH v h' (md n v)) (kH v h (md n v)) (kL v l' (md n v) (wdt v)) (kL v l (md n v) (wdt v)) (md n v) (md n v) _ _ rfl (by kernel_rfl) (by kernel_rfl) w).trans (by rw [hO_other v h l h0 h1 l0 l1 hma h' l' p0 p1 k0 k1 hmb (md m v) (md n v) (by omega) (by omega) (by omega), c4])) ?_
            refine k_val (want_no rfl) (some 96) rfl (.bool true) (fun _ => by kernel_rfl) ?_
            refine k_val (want_no rfl) (some 97) rfl (.bool true) (fun _ => by kernel_rfl) ?_
            refine k_load M (want_on 7 true rfl 97 rfl (by kernel_rfl)) (some 98) rfl 24 _ rfl 0 g1 0 (by kernel_rfl) 3 24 (ls [.bool (v), .int .u64 h, .int .u64 l]) rfl 3 (ls [.bool (v), .int .u64 h, .int .u64 l]) (fun j _ => by rw [Nat.zero_add]) (by decide) _ Tryz.underlying24 rfl inz24 ?_
            refine k_load M (want_on 7 true rfl 97 rfl (by kernel_rfl)) (some 99) rfl 24 _ rfl 1 g2 0 (by kernel_rfl) 3 24 (ls [.bool (v), .int .u64 h', .int .u64 l']) rfl 3 (ls [.bool (v), .int .u64 h', .int .u64 l']) (fun j _ => by rw [Nat.zero_add]) (by decide) _ Tryz.underlying24 rfl inz24 ?_
            by_cases c5 : v = v ∧ h = h' ∧ l = l'
            · skip
              refine k_val (want_on 7 true rfl 97 rfl (by kernel_rfl)) (some 100) rfl (.bool true) (fun w => (eql24 v v h h' l l' _ _ rfl (by kernel_rfl) (by kernel_rfl) w).trans (by rw [decide_eq_true c5])) ?_
              refine k_load M (want_on 7 true rfl 97 rfl (by kernel_rfl)) (some 101) rfl 24 _ rfl 0 g1 0 (by kernel_rfl) 3 24 (ls [.bool (v), .int .u64 h, .int .u64 l]) rfl 3 (ls [.bool (v), .int .u64 h, .int .u64 l]) (fun j _ => by rw [Nat.zero_add]) (by decide) _ Tryz.underlying24 rfl inz24 ?_
              refine k_load M (want_on 7 true rfl 97 rfl (by kernel_rfl)) (some 102) rfl 24 _ rfl 1 g2 0 (by kernel_rfl) 3 24 (ls [.bool (v), .int .u64 h', .int .u64 l']) rfl 3 (ls [.bool (v), .int .u64 h', .int .u64 l']) (fun j _ => by rw [Nat.zero_add]) (by decide) _ Tryz.underlying24 rfl inz24 ?_
              refine k_call M (want_on 7 true rfl 97 rfl (by kernel_rfl)) (some 103) rfl 30 #[.agg (av 3 (ls [.bool (v), .int .u64 h, .int .u64 l])), .agg (av 3 (ls [.bool (v), .int .u64 h', .int .u64 l']))] (.bool false) (fun _ => by kernel_rfl) (fun w M => call_val (c_Less v h l v h' l' w M.laid) (congrArg Value.bool (lS_no (decide_eq_true c5) (lS_anti v h l h' l')).1)) ?_
              refine k_val (want_on 7 true rfl 97 rfl (by kernel_rfl)) (some 104) rfl (.bool true) (fun _ => by kernel_rfl) ?_
              refine k_val (want_on 7 true rfl 97 rfl (by kernel_rfl)) (some 105) rfl (.bool true) (fun _ => by kernel_rfl) ?_
              refine k_load M (want_on 15 true rfl 105 rfl (by kernel_rfl)) (some 106) rfl 24 _ rfl 1 g2 0 (by kernel_rfl) 3 24 (ls [.bool (v), .int .u64 h', .int .u64 l']) rfl 3 (ls [.bool (v), .int .u64 h', .int .u64 l']) (fun j _ => by rw [Nat.zero_add]) (by decide) _ Tryz.underlying24 rfl inz24 ?_
              refine k_load M (want_on 15 true rfl 105 rfl (by kernel_rfl)) (some 107) rfl 24 _ rfl 0 g1 0 (by kernel_rfl) 3 24 (ls [.bool (v), .int .u64 h, .int .u64 l]) rfl 3 (ls [.bool (v), .int .u64 h, .int .u64 l]) (fun j _ => by rw [Nat.zero_add]) (by decide) _ Tryz.underlying24 rfl inz24 ?_
              refine k_call M (want_on 15 true rfl 105 rfl (by kernel_rfl)) (some 108) rfl 30 #[.agg (av 3 (ls [.bool (v), .int .u64 h', .int .u64 l'])), .agg (av 3 (ls [.bool (v), .int .u64 h, .int .u64 l]))] (.bool false) (fun _ => by kernel_rfl) (fun w M => call_val (c_Less v h' l' v h l w M.laid) (congrArg Value.bool (lS_no (decide_eq_true c5) (lS_anti v h l h' l')).2)) ?_
              refine k_val (want_on 15 true rfl 105 rfl (by kernel_rfl)) (some 109) rfl (.bool true) (fun _ => by kernel_rfl) ?_
              refine k_val (want_on 7 true rfl 97 rfl (by kernel_rfl)) (some 110) rfl (.bool true) (fun _ => by kernel_rfl) ?_
              refine k_val (want_on 7 true rfl 97 rfl (by kernel_rfl)) (some 111) rfl (.bool true) (fun _ => by kernel_rfl) ?_
              refine k_val (want_no rfl) (some 112) rfl (.bool true) (fun _ => by kernel_rfl) ?_
              refine k_val (want_no rfl) (some 113) rfl (.bool true) (fun _ => by kernel_rfl) ?_
              refine k_call M (want_on 23 true rfl 113 rfl (by kernel_rfl)) (some 114) rfl 9 #[] (.bool true) (fun _ => by kernel_rfl) (fun w M => c_works w M.laid) ?_
              refine k_val (want_no rfl) (some 115) rfl (.bool true) (fun _ => by kernel_rfl) ?_
              refine kl_nil ?_
              intro u15 M
              replace M : Mem ⟨w, []⟩ [⟨g1, .cells (av 3 (ls [.bool (v), .int .u64 h, .int .u64 l])) 24⟩, ⟨g2, .cells (av 3 (ls [.bool (v), .int .u64 h', .int .u64 l'])) 24⟩, ⟨g3, .cells (av 4 (ls [.bool (v), .int .u64 (kH v h (md m v)), .int .u64 (kL v l (md m v) (wdt v)), .int .u8 (md m v)])) 39⟩, ⟨g4, .cells (av 4 (ls [.bool (v), .int .u64 (kH v h (md n v)), .int .u64 (kL v l (md n v) (wdt v)), .int .u8 (md n v)])) 39⟩, ⟨g5, .cells (av 4 (ls [.bool (v), .int .u64 (kH v h' (md n v)), .int .u64 (kL v l' (md n v) (wdt v)), .int .u8 (md n v)])) 39⟩] u15 := M
              refine pl_val (want_no rfl) (some 8) rfl (.bool true) (fun _ => by kernel_rfl) ?_
              refine pl_nil ?_
              refine au_then ?_
              refine wp_ret ?_
              exact bodyPost_ret (v := .bool true) (results_tmp1 Tryz.results7 _ _ _ (by kernel_rfl)) (by kernel_rfl) ⟨rfl, below_grown M.old⟩
            · skip
              refine k_val (want_on 7 true rfl 97 rfl (by kernel_rfl)) (some 100) rfl (.bool false) (fun w => (eql24 v v h h' l l' _ _ rfl (by kernel_rfl) (by kernel_rfl) w).trans (by rw [decide_eq_false c5])) ?_
              refine k_load M (want_on 7 true rfl 97 rfl (by kernel_rfl)) (some 101) rfl 24 _ rfl 0 g1 0 (by kernel_rfl) 3 24 (ls [.bool (v), .int .u64 h, .int .u64 l]) rfl 3 (ls [.bool (v), .int .u64 h, .int .u64 l]) (fun j _ => by rw [Nat.zero_add]) (by decide) _ Tryz.underlying24 rfl inz24 ?_
              refine k_load M (want_on 7 true rfl 97 rfl (by kernel_rfl)) (some 102) rfl 24 _ rfl 1 g2 0 (by kernel_rfl) 3 24 (ls [.bool (v), .int .u64 h', .int .u64 l']) rfl 3 (ls [.bool (v), .int .u64 h', .int .u64 l']) (fun j _ => by rw [Nat.zero_add]) (by decide) _ Tryz.underlying24 rfl inz24 ?_
              rcases Bool.eq_false_or_eq_true (lS v h l v h' l') with c6 | c6
              · skip
                refine k_call M (want_on 7 true rfl 97 rfl (by kernel_rfl)) (some 103) rfl 30 #[.agg (av 3 (ls [.bool (v), .int .u64 h, .int .u64 l])), .agg (av 3 (ls [.bool (v), .int .u64 h', .int .u64 l']))] (.bool true) (fun _ => by kernel_rfl) (fun w M => call_val (c_Less v h l v h' l' w M.laid) (congrArg Value.bool c6)) ?_
                refine k_val (want_on 7 true rfl 97 rfl (by kernel_rfl)) (some 104) rfl (.bool false) (fun _ => by kernel_rfl) ?_
                refine k_val (want_on 7 true rfl 97 rfl (by kernel_rfl)) (some 105) rfl (.bool false) (fun _ => by kernel_rfl) ?_
                refine k_skip (want_off 15 true rfl 105 rfl (by kernel_rfl)) (some 106) rfl ?_
                refine k_skip (want_off 15 true rfl 105 rfl (by kernel_rfl)) (some 107) rfl ?_
                refine k_skip (want_off 15 true rfl 105 rfl (by kernel_rfl)) (some 108) rfl ?_
                refine k_skip (want_off 15 true rfl 105 rfl (by kernel_rfl)) (some 109) rfl ?_
                refine k_val (want_on 7 true rfl 97 rfl (by kernel_rfl)) (some 110) rfl (.bool false) (fun _ => by kernel_rfl) ?_
                refine k_val (want_on 7 true rfl 97 rfl (by kernel_rfl)) (some 111) rfl (.bool true) (fun _ => by kernel_rfl) ?_
                refine k_val (want_no rfl) (some 112) rfl (.bool true) (fun _ => by kernel_rfl) ?_
                refine k_val (want_no rfl) (some 113) rfl (.bool true) (fun _ => by kernel_rfl) ?_
                refine k_call M (want_on 23 true rfl 113 rfl (by kernel_rfl)) (some 114) rfl 9 #[] (.bool true) (fun _ => by kernel_rfl) (fun w M => c_works w M.laid) ?_
                refine k_val (want_no rfl) (some 115) rfl (.bool true) (fun _ => by kernel_rfl) ?_
                refine kl_nil ?_
                intro u15 M
                replace M : Mem ⟨w, []⟩ [⟨g1, .cells (av 3 (ls [.bool (v), .int .u64 h, .int .u64 l])) 24⟩, ⟨g2, .cells (av 3 (ls [.bool (v), .int .u64 h', .int .u64 l'])) 24⟩, ⟨g3, .cells (av 4 (ls [.bool (v), .int .u64 (kH v h (md m v)), .int .u64 (kL v l (md m v) (wdt v)), .int .u8 (md m v)])) 39⟩, ⟨g4, .cells (av 4 (ls [.bool (v), .int .u64 (kH v h (md n v)), .int .u64 (kL v l (md n v) (wdt v)), .int .u8 (md n v)])) 39⟩, ⟨g5, .cells (av 4 (ls [.bool (v), .int .u64 (kH v h' (md n v)), .int .u64 (kL v l' (md n v) (wdt v)), .int .u8 (md n v)])) 39⟩] u15 := M
                refine pl_val (want_no rfl) (some 8) rfl (.bool true) (fun _ => by kernel_rfl) ?_
                refine pl_nil ?_
                refine au_then ?_
                refine wp_ret ?_
                exact bodyPost_ret (v := .bool true) (results_tmp1 Tryz.results7 _ _ _ (by kernel_rfl)) (by kernel_rfl) ⟨rfl, below_grown M.old⟩
              · skip
                refine k_call M (want_on 7 true rfl 97 rfl (by kernel_rfl)) (some 103) rfl 30 #[.agg (av 3 (ls [.bool (v), .int .u64 h, .int .u64 l])), .agg (av 3 (ls [.bool (v), .int .u64 h', .int .u64 l']))] (.bool false) (fun _ => by kernel_rfl) (fun w M => call_val (c_Less v h l v h' l' w M.laid) (congrArg Value.bool c6)) ?_
                refine k_val (want_on 7 true rfl 97 rfl (by kernel_rfl)) (some 104) rfl (.bool true) (fun _ => by kernel_rfl) ?_
                refine k_val (want_on 7 true rfl 97 rfl (by kernel_rfl)) (some 105) rfl (.bool true) (fun _ => by kernel_rfl) ?_
                refine k_load M (want_on 15 true rfl 105 rfl (by kernel_rfl)) (some 106) rfl 24 _ rfl 1 g2 0 (by kernel_rfl) 3 24 (ls [.bool (v), .int .u64 h', .int .u64 l']) rfl 3 (ls [.bool (v), .int .u64 h', .int .u64 l']) (fun j _ => by rw [Nat.zero_add]) (by decide) _ Tryz.underlying24 rfl inz24 ?_
                refine k_load M (want_on 15 true rfl 105 rfl (by kernel_rfl)) (some 107) rfl 24 _ rfl 0 g1 0 (by kernel_rfl) 3 24 (ls [.bool (v), .int .u64 h, .int .u64 l]) rfl 3 (ls [.bool (v), .int .u64 h, .int .u64 l]) (fun j _ => by rw [Nat.zero_add]) (by decide) _ Tryz.underlying24 rfl inz24 ?_
                refine k_call M (want_on 15 true rfl 105 rfl (by kernel_rfl)) (some 108) rfl 30 #[.agg (av 3 (ls [.bool (v), .int .u64 h', .int .u64 l'])), .agg (av 3 (ls [.bool (v), .int .u64 h, .int .u64 l]))] (.bool true) (fun _ => by kernel_rfl) (fun w M => call_val (c_Less v h' l' v h l w M.laid) (congrArg Value.bool (lS_yes (decide_eq_false c5) (lS_anti v h l h' l') c6))) ?_
                refine k_val (want_on 15 true rfl 105 rfl (by kernel_rfl)) (some 109) rfl (.bool false) (fun _ => by kernel_rfl) ?_
                refine k_val (want_on 7 true rfl 97 rfl (by kernel_rfl)) (some 110) rfl (.bool false) (fun _ => by kernel_rfl) ?_
                refine k_val (want_on 7 true rfl 97 rfl (by kernel_rfl)) (some 111) rfl (.bool true) (fun _ => by kernel_rfl) ?_
                refine k_val (want_no rfl) (some 112) rfl (.bool true) (fun _ => by kernel_rfl) ?_
                refine k_val (want_no rfl) (some 113) rfl (.bool true) (fun _ => by kernel_rfl) ?_
                refine k_call M (want_on 23 true rfl 113 rfl (by kernel_rfl)) (some 114) rfl 9 #[] (.bool true) (fun _ => by kernel_rfl) (fun w M => c_works w M.laid) ?_
                refine k_val (want_no rfl) (some 115) rfl (.bool true) (fun _ => by kernel_rfl) ?_
                refine kl_nil ?_
                intro u15 M
                replace M : Mem ⟨w, []⟩ [⟨g1, .cells (av 3 (ls [.bool (v), .int .u64 h, .int .u64 l])) 24⟩, ⟨g2, .cells (av 3 (ls [.bool (v), .int .u64 h', .int .u64 l'])) 24⟩, ⟨g3, .cells (av 4 (ls [.bool (v), .int .u64 (kH v h (md m v)), .int .u64 (kL v l (md m v) (wdt v)), .int .u8 (md m v)])) 39⟩, ⟨g4, .cells (av 4 (ls [.bool (v), .int .u64 (kH v h (md n v)), .int .u64 (kL v l (md n v) (wdt v)), .int .u8 (md n v)])) 39⟩, ⟨g5, .cells (av 4 (ls [.bool (v), .int .u64 (kH v h' (md n v)), .int .u64 (kL v l' (md n v) (wdt v)), .int .u8 (md n v)])) 39⟩] u15 := M
                refine pl_val (want_no rfl) (some 8) rfl (.bool true) (fun _ => by kernel_rfl) ?_
                refine pl_nil ?_
                refine au_then ?_
                refine wp_ret ?_
                exact bodyPost_ret (v := .bool true) (results_tmp1 Tryz.results7 _ _ _ (by kernel_rfl)) (by kernel_rfl) ⟨rfl, below_grown M.old⟩

set_option maxRecDepth 100000 in
set_option maxHeartbeats 4000000 in
set_option linter.unusedSimpArgs false in
theorem c_holdsN (v v' : Bool) (hv : ¬ v = v') (h l h' l' m n : Int) (w : World) (hL : Laid w)  :
    Calls Tryz.prog 7 #[.agg (av 3 (ls [.bool (v), .int .u64 h, .int .u64 l])), .agg (av 3 (ls [.bool (v'), .int .u64 h', .int .u64 l'])), .int .u8 m, .int .u8 n] w fun r w' => r = .returned (.bool true) ∧ Below w.heap.size w w' := by
  go_enter Tryz.func7, Tryz.ntmps7
  have M := Mem.start hL
  refine wp_seq ?_
  refine rg_lit ?_
  refine pl_new M (want_no rfl) (some 4) rfl (.cells (av 3 (ls [.bool (v), .int .u64 h, .int .u64 l])) 24) (fun _ => by kernel_rfl) ?_
  intro g1 u1 M
  replace M : Mem ⟨w, []⟩ [⟨g1, .cells (av 3 (ls [.bool (v), .int .u64 h, .int .u64 l])) 24⟩] u1 := M
  refine pl_new M (want_no rfl) (some 5) rfl (.cells (av 3 (ls [.bool (v'), .int .u64 h', .int .u64 l'])) 24) (fun _ => by kernel_rfl) ?_
  intro g2 u2 M
  replace M : Mem ⟨w, []⟩ [⟨g1, .cells (av 3 (ls [.bool (v), .int .u64 h, .int .u64 l])) 24⟩, ⟨g2, .cells (av 3 (ls [.bool (v'), .int .u64 h', .int .u64 l'])) 24⟩] u2 := M
  refine pl_val (want_no rfl) (some 8) rfl (.bool false) (fun _ => by kernel_rfl) ?_
  refine pl_nil ?_
  refine au_then ?_
  refine wp_seq ?_
  refine wp_seq ?_
  refine rg_lit ?_
  refine pl_val (want_no rfl) (some 13) rfl (.pointer (some ⟨g1, 0, none⟩)) (fun _ => by kernel_rfl) ?_
  rcases Bool.eq_false_or_eq_true (v) with c0 | c0
  · skip
    refine pl_cell M (want_no rfl) (some 14) rfl 4 _ rfl g1 0 (by kernel_rfl) (.bool true) (fun _ => by kernel_rfl) (fun w M => M.cell 0 rfl (by decide) (congrArg Value.bool c0)) ?_
    refine pl_val (want_no rfl) (some 15) rfl (.pointer (some ⟨g2, 0, none⟩)) (fun _ => by kernel_rfl) ?_
    rcases Bool.eq_false_or_eq_true (v') with c1 | c1
    · skip
      refine pl_cell M (want_no rfl) (some 16) rfl 4 _ rfl g2 0 (by kernel_rfl) (.bool true) (fun _ => by kernel_rfl) (fun w M => M.cell 1 rfl (by decide) (congrArg Value.bool c1)) ?_
      refine pl_val (want_no rfl) (some 17) rfl (.bool true) (fun w => absurd (c0.trans c1.symm) hv) ?_
      refine pl_val (want_no rfl) (some 18) rfl (.bool true) (fun _ => by kernel_rfl) ?_
      refine pl_skip (want_off 5 false rfl 18 rfl (by kernel_rfl)) (some 19) rfl ?_
      refine pl_skip (want_off 5 false rfl 18 rfl (by kernel_rfl)) (some 20) rfl ?_
      refine pl_skip (want_off 5 false rfl 18 rfl (by kernel_rfl)) (some 21) rfl ?_
      refine pl_val (want_no rfl) (some 22) rfl (.bool true) (fun _ => by kernel_rfl) ?_
      refine pl_val (want_no rfl) (some 23) rfl (.bool true) (fun _ => by kernel_rfl) ?_
      refine pl_skip (want_off 10 false rfl 23 rfl (by kernel_rfl)) (some 24) rfl ?_
      refine pl_skip (want_off 10 false rfl 23 rfl (by kernel_rfl)) (some 25) rfl ?_
      refine pl_skip (want_off 10 false rfl 23 rfl (by kernel_rfl)) (some 26) rfl ?_
      refine pl_val (want_no rfl) (some 27) rfl (.bool true) (fun _ => by kernel_rfl) ?_
      refine pl_nil ?_
      refine au_then ?_
      refine wp_cond_true (by kernel_rfl) ?_
      refine wp_seq ?_
      refine rg_lit ?_
      refine pl_call M (want_no rfl) (some 28) rfl 9 #[] (.bool true) (fun _ => by kernel_rfl) (fun w M => c_works w M.laid) ?_
      intro u3 M
      refine pl_val (want_no rfl) (some 8) rfl (.bool true) (fun _ => by kernel_rfl) ?_
      refine pl_nil ?_
      refine au_then ?_
      refine wp_ret ?_
      refine au_then_ret ?_
      exact bodyPost_ret (v := .bool true) (results_tmp1 Tryz.results7 _ _ _ (by kernel_rfl)) (by kernel_rfl) ⟨rfl, below_grown M.old⟩
    · skip
      refine pl_cell M (want_no rfl) (some 16) rfl 4 _ rfl g2 0 (by kernel_rfl) (.bool false) (fun _ => by kernel_rfl) (fun w M => M.cell 1 rfl (by decide) (congrArg Value.bool c1)) ?_
      refine pl_val (want_no rfl) (some 17) rfl (.bool true) (fun _ => by kernel_rfl) ?_
      refine pl_val (want_no rfl) (some 18) rfl (.bool true) (fun _ => by kernel_rfl) ?_
      refine pl_skip (want_off 5 false rfl 18 rfl (by kernel_rfl)) (some 19) rfl ?_
      refine pl_skip (want_off 5 false rfl 18 rfl (by kernel_rfl)) (some 20) rfl ?_
      refine pl_skip (want_off 5 false rfl 18 rfl (by kernel_rfl)) (some 21) rfl ?_
      refine pl_val (want_no rfl) (some 22) rfl (.bool true) (fun _ => by kernel_rfl) ?_
      refine pl_val (want_no rfl) (some 23) rfl (.bool true) (fun _ => by kernel_rfl) ?_
      refine pl_skip (want_off 10 false rfl 23 rfl (by kernel_rfl)) (some 24) rfl ?_
      refine pl_skip (want_off 10 false rfl 23 rfl (by kernel_rfl)) (some 25) rfl ?_
      refine pl_skip (want_off 10 false rfl 23 rfl (by kernel_rfl)) (some 26) rfl ?_
      refine pl_val (want_no rfl) (some 27) rfl (.bool true) (fun _ => by kernel_rfl) ?_
      refine pl_nil ?_
      refine au_then ?_
      refine wp_cond_true (by kernel_rfl) ?_
      refine wp_seq ?_
      refine rg_lit ?_
      refine pl_call M (want_no rfl) (some 28) rfl 9 #[] (.bool true) (fun _ => by kernel_rfl) (fun w M => c_works w M.laid) ?_
      intro u3 M
      refine pl_val (want_no rfl) (some 8) rfl (.bool true) (fun _ => by kernel_rfl) ?_
      refine pl_nil ?_
      refine au_then ?_
      refine wp_ret ?_
      refine au_then_ret ?_
      exact bodyPost_ret (v := .bool true) (results_tmp1 Tryz.results7 _ _ _ (by kernel_rfl)) (by kernel_rfl) ⟨rfl, below_grown M.old⟩
  · skip
    refine pl_cell M (want_no rfl) (some 14) rfl 4 _ rfl g1 0 (by kernel_rfl) (.bool false) (fun _ => by kernel_rfl) (fun w M => M.cell 0 rfl (by decide) (congrArg Value.bool c0)) ?_
    refine pl_val (want_no rfl) (some 15) rfl (.pointer (some ⟨g2, 0, none⟩)) (fun _ => by kernel_rfl) ?_
    rcases Bool.eq_false_or_eq_true (v') with c1 | c1
    · skip
      refine pl_cell M (want_no rfl) (some 16) rfl 4 _ rfl g2 0 (by kernel_rfl) (.bool true) (fun _ => by kernel_rfl) (fun w M => M.cell 1 rfl (by decide) (congrArg Value.bool c1)) ?_
      refine pl_val (want_no rfl) (some 17) rfl (.bool true) (fun _ => by kernel_rfl) ?_
      refine pl_val (want_no rfl) (some 18) rfl (.bool true) (fun _ => by kernel_rfl) ?_
      refine pl_skip (want_off 5 false rfl 18 rfl (by kernel_rfl)) (some 19) rfl ?_
      refine pl_skip (want_off 5 false rfl 18 rfl (by kernel_rfl)) (some 20) rfl ?_
      refine pl_skip (want_off 5 false rfl 18 rfl (by kernel_rfl)) (some 21) rfl ?_
      refine pl_val (want_no rfl) (some 22) rfl (.bool true) (fun _ => by kernel_rfl) ?_
      refine pl_val (want_no rfl) (some 23) rfl (.bool true) (fun _ => by kernel_rfl) ?_
      refine pl_skip (want_off 10 false rfl 23 rfl (by kernel_rfl)) (some 24) rfl ?_
      refine pl_skip (want_off 10 false rfl 23 rfl (by kernel_rfl)) (some 25) rfl ?_
      refine pl_skip (want_off 10 false rfl 23 rfl (by kernel_rfl)) (some 26) rfl ?_
      refine pl_val (want_no rfl) (some 27) rfl (.bool true) (fun _ => by kernel_rfl) ?_
      refine pl_nil ?_
      refine au_then ?_
      refine wp_cond_true (by kernel_rfl) ?_
      refine wp_seq ?_
      refine rg_lit ?_
      refine pl_call M (want_no rfl) (some 28) rfl 9 #[] (.bool true) (fun _ => by kernel_rfl) (fun w M => c_works w M.laid) ?_
      intro u3 M
      refine pl_val (want_no rfl) (some 8) rfl (.bool true) (fun _ => by kernel_rfl) ?_
      refine pl_nil ?_
      refine au_then ?_
      refine wp_ret ?_
      refine au_then_ret ?_
      exact bodyPost_ret (v := .bool true) (results_tmp1 Tryz.results7 _ _ _ (by kernel_rfl)) (by kernel_rfl) ⟨rfl, below_grown M.old⟩
    · skip
      refine pl_cell M (want_no rfl) (some 16) rfl 4 _ rfl g2 0 (by kernel_rfl) (.bool false) (fun _ => by kernel_rfl) (fun w M => M.cell 1 rfl (by decide) (congrArg Value.bool c1)) ?_
      refine pl_val (want_no rfl) (some 17) rfl (.bool true) (fun w => absurd (c0.trans c1.symm) hv) ?_
      refine pl_val (want_no rfl) (some 18) rfl (.bool true) (fun _ => by kernel_rfl) ?_
      refine pl_skip (want_off 5 false rfl 18 rfl (by kernel_rfl)) (some 19) rfl ?_
      refine pl_skip (want_off 5 false rfl 18 rfl (by kernel_rfl)) (some 20) rfl ?_
      refine pl_skip (want_off 5 false rfl 18 rfl (by kernel_rfl)) (some 21) rfl ?_
      refine pl_val (want_no rfl) (some 22) rfl (.bool true) (fun _ => by kernel_rfl) ?_
      refine pl_val (want_no rfl) (some 23) rfl (.bool true) (fun _ => by kernel_rfl) ?_
      refine pl_skip (want_off 10 false rfl 23 rfl (by kernel_rfl)) (some 24) rfl ?_
      refine pl_skip (want_off 10 false rfl 23 rfl (by kernel_rfl)) (some 25) rfl ?_
      refine pl_skip (want_off 10 false rfl 23 rfl (by kernel_rfl)) (some 26) rfl ?_
      refine pl_val (want_no rfl) (some 27) rfl (.bool true) (fun _ => by kernel_rfl) ?_
      refine pl_nil ?_
      refine au_then ?_
      refine wp_cond_true (by kernel_rfl) ?_
      refine wp_seq ?_
      refine rg_lit ?_
      refine pl_call M (want_no rfl) (some 28) rfl 9 #[] (.bool true) (fun _ => by kernel_rfl) (fun w M => c_works w M.laid) ?_
      intro u3 M
      refine pl_val (want_no rfl) (some 8) rfl (.bool true) (fun _ => by kernel_rfl) ?_
      refine pl_nil ?_
      refine au_then ?_
      refine wp_ret ?_
      refine au_then_ret ?_
      exact bodyPost_ret (v := .bool true) (results_tmp1 Tryz.results7 _ _ _ (by kernel_rfl)) (by kernel_rfl) ⟨rfl, below_grown M.old⟩


end Go.Proofs.YtndonmdgplojnaaGreatDoor

/- The package variables: what the conditions give a walk; a world that meets them; arguments of each type, opened. -/
namespace Go.Proofs.YtndonmdgplojnaaGreatDoor
open Go.RowKit
set_option maxRecDepth 100000

def lay7 : List (String × DataW Unit) := [("math/bits.deBruijn32tab", Rows.laid_math_bits_deBruijn32tab), ("math/bits.deBruijn64tab", Rows.laid_math_bits_deBruijn64tab), ("internal/strconv.uint64pow10", Rows.laid_internal_strconv_uint64pow10), ("unicode/utf8.acceptRanges", Rows.laid_unicode_utf8_acceptRanges), ("strconv.ErrRange", Rows.laid_strconv_ErrRange), ("strconv.ErrSyntax", Rows.laid_strconv_ErrSyntax), ("unicode/utf8.first", Rows.laid_unicode_utf8_first)]
def db64 : List Int := [0, 1, 56, 2, 57, 49, 28, 3, 61, 58, 42, 50, 38, 29, 17, 4, 62, 47, 59, 36, 45, 43, 51, 22, 53, 39, 33, 30, 24, 18, 12, 5, 63, 55, 48, 27, 60, 41, 37, 16, 46, 35, 44, 21, 52, 32, 23, 11, 54, 26, 40, 15, 34, 20, 31, 10, 25, 14, 19, 9, 13, 8, 7, 6]
theorem tab_of {W : World} {name : String} {k : IntKind} {zs : List Int} {g : Nat} {t e : TypeId} {n : Nat} {d : DataW Unit} (hd : d = Lib.tabData k zs) (hg : Tryz.prog.globalNamed name = some g) (hty : (Tryz.prog.globals[g]?).map (·.type) = some t) (ht : Tryz.prog.underlying t = some (.array n e)) (he : Tryz.prog.underlying e = some (.int k)) (hce : Tryz.prog.cellsOf e = 1) (hct : Tryz.prog.cellsOf t = n)
    {g' : Nat} {t' : TypeId} {cs : Array Value} {fuel : Nat} {p : List MemPlace} (hg' : Tryz.prog.globalNamed name = some g') (ht' : (Tryz.prog.globals[g']?).map (·.type) = some t') (hv : W.var? Tryz.prog name = some cs) (h : DataW.trod (fun _ => ()) Tryz.prog W 0 (fun _ => true) false fuel t' cs.toList = some (d, p)) : Lib.TabIs Tryz.prog W name k zs := by
  subst hd
  obtain rfl := Option.some.inj (hg.symm.trans hg')
  obtain rfl := Option.some.inj (hty.symm.trans ht')
  unfold Lib.TabIs
  rw [hv, ← Lib.cells_of_tab ht he hce hct h]
theorem err_of {W : World} {name : String} {g : Nat} {nm : String} {d : DataW Unit} (hg : Tryz.prog.globalNamed name = some g) (hty : (Tryz.prog.globals[g]?).map (·.type) = some 90)
    {g' : Nat} {t' : TypeId} {cs : Array Value} {fuel : Nat} {p : List MemPlace} (hg' : Tryz.prog.globalNamed name = some g') (ht' : (Tryz.prog.globals[g']?).map (·.type) = some t') (hv : W.var? Tryz.prog name = some cs) (h : DataW.trod (fun _ => ()) Tryz.prog W 0 (fun _ => true) false fuel t' cs.toList = some (.iface nm d, p)) : ∃ t p, W.cell? ⟨g, 0, none⟩ = some (.iface t p) := by
  obtain rfl := Option.some.inj (hg.symm.trans hg')
  obtain rfl := Option.some.inj (hty.symm.trans ht')
  obtain ⟨_, u, v, hc, _⟩ := iface_of_trod Tryz.underlying90 h
  refine ⟨u, v, ?_⟩
  rw [World.var?_cell hg hv 0, ← Array.getElem?_toList, hc]
  rfl
theorem var_lt {W : World} {name : String} {g : Nat} {cs : Array Value} (hg : Tryz.prog.globalNamed name = some g) (hv : W.var? Tryz.prog name = some cs) : g < W.heap.size := by
  unfold World.var? at hv
  rw [hg, Option.bind_some] at hv
  by_cases h : g < W.heap.size
  · exact h
  · rw [Array.getElem?_eq_none (by omega)] at hv
    cases hv
theorem laid_of {W : World} (h0 : laidMetH Tryz.prog lay7 W) (hs : W.ShapedOpen Tryz.prog) : Laid W := by
  have h : laidMet Tryz.prog lay7 W := h0
  obtain ⟨ps, ⟨_, _, _, _, _, _, _, _, _, _, ⟨g2, t2, c2, f2, p2, _, hg2, ht2, hv2, hd2, ⟨g3, t3, c3, f3, p3, _, hg3, ht3, hv3, hd3, ⟨_, _, _, _, _, _, _, _, hv4, _, ⟨g5, t5, c5, f5, p5, _, hg5, ht5, hv5, hd5, ⟨g6, t6, c6, f6, p6, _, hg6, ht6, hv6, hd6, _, _⟩, _⟩, _⟩, _⟩, _⟩, _⟩, _⟩ := h
  refine ⟨cell_of_shapedOpen_int hs (g := 0) (t := 3) (zero := #[.int .i64 0]) (by decide) (by kernel_rfl) rfl (by kernel_rfl) (by kernel_rfl) Tryz.underlying3, ?_, ?_, ?_, ?_, ?_⟩
  · exact tab_of (g := 1) (by kernel_rfl) (by kernel_rfl) (by kernel_rfl) Tryz.underlying144 Tryz.underlying22 (by kernel_rfl) (by kernel_rfl) hg3 ht3 hv3 hd3
  · exact err_of (by kernel_rfl) (by kernel_rfl) hg6 ht6 hv6 hd6
  · exact err_of (by kernel_rfl) (by kernel_rfl) hg5 ht5 hv5 hd5
  · have := tab_of (g := 5) (zs := db64) (by kernel_rfl) (by kernel_rfl) (by kernel_rfl) Tryz.underlying166 Tryz.underlying5 (by kernel_rfl) (by kernel_rfl) hg2 ht2 hv2 hd2
    exact this.cell (by kernel_rfl) 15 (by decide)
  · have hg : Tryz.prog.globalNamed "unicode/utf8.acceptRanges" = some 7 := by kernel_rfl
    have := var_lt hg hv4
    omega
theorem lay_witness (os : Os) (args : Array Value) : laidMetH Tryz.prog lay7 ((World.laidAll Tryz.prog os lay7).forCall (fun _ _ => 0) ⟨#[], args, []⟩).memory := laidMet_laidAll (laid := lay7) args (by kernel_rfl) (by kernel_rfl)
/-- What the shape and the listed variables give a contract. -/
theorem handed_laid {H : Type} {enc : TypeId × Value → H} {os : Os} {f : FuncId} {fn : Func} {s : ChangeSpec} {conds : List PathCond} (own : ownKnob Tryz.prog.godebug = none) (started : os.Started) (noInit : Tryz.prog.inits.idxOf? f = none) (hfn : Tryz.prog.funcs[f]? = some fn)
    (wit : ∃ (w : World) (tape : Tape) (i : Input), w.os = os ∧ (w.forCall tape i).Shaped Tryz.checked.prog ∧ i.vars = [] ∧ Input.okWide Tryz.checked.prog (w.forCall tape i) .any w.heap.size f i ∧ ((s.pre enc Tryz.checked.prog fn conds false (w.forCall tape i).memory i.args ∧ laidMetH Tryz.checked.prog lay7 (w.forCall tape i).memory) ∧ sizedMet enc Tryz.checked.prog fn (OpenSpec.ofChange s) false (w.forCall tape i).memory i.args) ∧ ({} : Assume).holds Tryz.checked.prog (lone (Frame.enter Tryz.checked.prog f i.args .normal) [] (w.forCall tape i)))
    (contract : ∀ (W : World) (base : Nat) (args : Array Value) (ds gs : List (DataW H)) (before : List MemPlace), (∀ (j : Nat) t v, fn.params[j]? = some t → args[j]? = some v → Value.okWide Tryz.prog W .any base t v) → DataW.Whole enc Tryz.prog fn.params.toList s.vars false W args.toList ds gs before → Laid W →
      Calls Tryz.prog f args W fun e W' => ∃ v, e = .returned v ∧ s.post enc Tryz.prog fn false true false false W args v W') :
    ReturnsInHanded {} Tryz.checked os f .any (fun w args => (s.pre enc Tryz.checked.prog fn conds false w args ∧ laidMetH Tryz.checked.prog lay7 w) ∧ sizedMet enc Tryz.checked.prog fn (OpenSpec.ofChange s) false w args) (s.post enc Tryz.checked.prog fn false true false false) := by
  refine returnsInHanded_of_calls own started noInit wit fun w tape i _ hsh _ hok hpre _ => ?_
  obtain ⟨_, _, _, fn2, hfn2, _, _, _, _, hval⟩ := hok
  obtain rfl : fn2 = fn := Option.some.inj (hfn2.symm.trans hfn)
  obtain ⟨⟨⟨ds, gs, before, hw, _⟩, hx⟩, _⟩ := hpre
  have hx2 : laidMetH Tryz.prog lay7 (w.forCall tape i) := laidMetH.of_heap (by rfl) hx
  have hl : Laid (w.forCall tape i) := laid_of hx2 hsh
  have hw' := DataW.Whole.of_heap (w' := w.forCall tape i) (by rfl) hw
  refine (contract (w.forCall tape i) w.heap.size i.args ds gs before hval hw' hl).mono fun e W' ⟨v, he, hp⟩ => ?_
  subst he
  exact ChangeSpec.post_blind hp
theorem laidOut : laidOutB Tryz.prog = true := by kernel_rfl
theorem ownNone : ownKnob Tryz.prog.godebug = none := by kernel_rfl
section
variable {W : World} {b0 : Nat} {v : Value}
theorem cell_bool (h : Cell.okWide Tryz.prog W .any b0 4 v) : ∃ b, v = .bool b := by
  simp only [Cell.okWide, Tryz.underlying4] at h
  cases v <;> simp_all [Cell.ok, Tryz.underlying4]
theorem cell_u64 (h : Cell.okWide Tryz.prog W .any b0 22 v) : ∃ n, v = .int .u64 n ∧ 0 ≤ n ∧ n < 18446744073709551616 := by
  simp only [Cell.okWide, Tryz.underlying22] at h
  cases v <;> simp_all [Cell.ok, Tryz.underlying22]
  rename_i k n
  obtain ⟨rfl, h1, h2⟩ := h
  simp [IntKind.min, IntKind.max, IntKind.bits, IntKind.signed] at h1 h2
  exact ⟨h1, by omega⟩
theorem cell_u8 (h : Cell.okWide Tryz.prog W .any b0 5 v) : ∃ n, v = .int .u8 n ∧ 0 ≤ n ∧ n < 256 := by
  simp only [Cell.okWide, Tryz.underlying5] at h
  cases v <;> simp_all [Cell.ok, Tryz.underlying5]
  rename_i k n
  obtain ⟨rfl, h1, h2⟩ := h
  simp [IntKind.min, IntKind.max, IntKind.bits, IntKind.signed] at h1 h2
  exact ⟨h1, by omega⟩
theorem op5 (h : Value.okWide Tryz.prog W .any b0 5 v) : ∃ n, v = .int .u8 n ∧ 0 ≤ n ∧ n < 256 := by
  simp only [Value.okWide, Tryz.underlying5] at h
  exact cell_u8 h
theorem row_av (cs : Array Value) (l : List Value) (hs : cs.size = l.length) (h : ∀ i, i < l.length → cs[i]? = l[i]?) : cs = av l.length (ls l) := by
  apply Array.ext_getElem?
  intro i
  by_cases hi : i < l.length
  · rw [h i hi, av_get _ _ _ hi]
    unfold ls
    rw [getD_app, List.getElem?_eq_getElem hi]
    rfl
  · rw [Array.getElem?_eq_none (by omega), Array.getElem?_eq_none (by rw [av_size]; omega)]
end
theorem row_cells {W : World} {b0 : Nat} {t : TypeId} {v : Value} {fs : Array Field} {ts : List TypeId} (ht : Tryz.prog.underlying t = some (.struct fs)) (hc : Tryz.prog.cellTypes Tryz.prog.depth t = some ts) (hn : Tryz.prog.cellsOf t = ts.length) (h : Value.okWide Tryz.prog W .any b0 t v) : ∃ cs, v = .agg cs ∧ cs.size = ts.length ∧ ∀ (i : Nat) (u : TypeId), ts[i]? = some u → ∃ x, cs[i]? = some x ∧ Cell.okWide Tryz.prog W .any b0 u x := by
  simp only [Value.okWide, ht] at h
  obtain ⟨cs, rfl, h2, ts2, h3, _, h4⟩ := h
  rw [hc] at h3
  cases h3
  refine ⟨cs, rfl, by omega, fun i u hu => ?_⟩
  have hi := (List.getElem?_eq_some_iff.1 hu).1
  obtain ⟨u2, hu2, hx⟩ := h4 i cs[i] (Array.getElem?_eq_getElem (by omega))
  rw [Nat.mod_eq_of_lt hi, hu] at hu2
  cases hu2
  exact ⟨cs[i], Array.getElem?_eq_getElem (by omega), hx⟩
theorem op24 {W : World} {b0 : Nat} {v : Value} (h : Value.okWide Tryz.prog W .any b0 24 v) : ∃ (b : Bool) (h1 : Int) (l1 : Int), v = .agg (av 3 (ls [.bool b, .int .u64 h1, .int .u64 l1])) ∧ (0 ≤ h1 ∧ h1 < 18446744073709551616) ∧ (0 ≤ l1 ∧ l1 < 18446744073709551616) := by
  obtain ⟨cs, rfl, hs, hc⟩ := row_cells (ts := [4, 22, 22]) Tryz.underlying24 (by kernel_rfl) (by kernel_rfl) h
  obtain ⟨x0, e0, o0⟩ := hc 0 4 rfl
  obtain ⟨b, rfl⟩ := cell_bool o0
  obtain ⟨x1, e1, o1⟩ := hc 1 22 rfl
  obtain ⟨h1, rfl, r1⟩ := cell_u64 o1
  obtain ⟨x2, e2, o2⟩ := hc 2 22 rfl
  obtain ⟨l1, rfl, r2⟩ := cell_u64 o2
  refine ⟨b, h1, l1, congrArg Value.agg (row_av cs [.bool b, .int .u64 h1, .int .u64 l1] hs fun i hi => ?_), r1, r2⟩
  rcases i with _ | _ | _ | i
  · exact e0
  · exact e1
  · exact e2
  · exact absurd hi (by simp)
end Go.Proofs.YtndonmdgplojnaaGreatDoor
