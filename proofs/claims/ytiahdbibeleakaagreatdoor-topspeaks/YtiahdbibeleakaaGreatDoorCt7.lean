/- Part 7 of the walks and facts. -/
import Derived.Test.YtiahdbibeleakaaGreatDoorCt6
import Derived.Carry
import Derived.Deep.SlicePairs
import Derived.Lay
import Derived.OpenShut
import Derived.ProofKit
import Derived.ShutString
import Derived.SizedLaws
import Derived.Test.YtiahdbibeleakaaGreatDoorTie
set_option maxHeartbeats 16000000
set_option maxRecDepth 100000
set_option linter.unusedSimpArgs false
set_option linter.unusedVariables false
namespace Go.Proofs.YtiahdbibeleakaaGreatDoor
open Go.RowKit
abbrev tsA (KA KB : Yb) (n : Nat) (q : List Nat) : TS := ⟨40, 50, 10, 20, 64, n, 0, KA, KB, true, true, q⟩
abbrev tsB (KA KB : Yb) (n : Nat) (su : Bool) (q : List Nat) : TS := ⟨40, 50, 10, 20, 64, n, 0, KB, KA, false, su, q⟩
theorem okS {k1 k2 : Yb} {n : Nat} {fi su : Bool} {q : List Nat} (h : n ≤ 50) : TS.Ok ⟨40, 50, 10, 20, 64, n, 0, k1, k2, fi, su, q⟩ := ⟨show 1 ≤ 64 by decide, show 64 ≤ 4096 by decide, show 50 ≤ 1152921504606846976 by decide, h⟩
theorem c_shakenO {a b e f : Yb} (ha : a.size = 32) (hb : b.size = 32) (he : e.size = 32) (hf : f.size = 32) (w : World) (hL : Laid w) : Calls Tryz.prog 6 #[.agg (av 4 (ls [.string a, .string b, .string e, .string f])), .agg (av 5 (ls [.int .u64 40, .int .u64 50, .int .u64 10, .int .u64 20, .int .i64 64]))] w fun r w' => ∃ x : ((Nat × List Blk) × Nat × List Blk) × ByteArray × ByteArray, r = .returned (.tuple #[.pointer (some ⟨x.1.1.1, 0, none⟩), .pointer (some ⟨x.1.2.1, 0, none⟩)]) ∧ ((x.2.1.size = 32 ∧ x.2.2.size = 32) ∧ IsT x.1.1.1 (tsA x.2.1 x.2.2 0 []) x.1.1.2 ∧ IsT x.1.2.1 (tsB x.2.1 x.2.2 0 false []) x.1.2.2) ∧ OkT w w' [] (x.1.2.2 ++ x.1.1.2) :=
 (c_shaken ha hb he hf w hL).mono fun _ _ ⟨x, h1, h2, h3⟩ => ⟨(x, (hkA a b e f, hkB a b e f)), h1, ⟨⟨hkA_size _ _ _ _, hkB_size _ _ _ _⟩, h2⟩, h3⟩
section
variable {P : Program} {ops : Array Oper} {rest : List Oper} {o : Oper} {a : Act} {w : World} {c : Ctx} {L : List Blk} {Q : Exit → Act → World → Prop}
theorem pl_loadO (M : Mem c L w) (hw : Region.wanted o (yielded ops a.tmps) = true) (d : Option Tmp) (hd : o.dst = d) (ty : TypeId) (x : Operand) (ho : o.op = .load ty x) (g off : Nat) (hx : a.eval x = .pointer (some ⟨g, off, none⟩)) (k : Nat) (F : NV) (hp : ∀ w, Mem c L w → ∀ j, j < k → w.cell? ⟨g, off + j, none⟩ = some (F j)) (t : TypeDesc) (hu : P.underlying ty = some t) (ht : t.isRow = true) (hz : (P.info? ty).map (·.size) = some k)
  (h : PL P ops Q rest (a.put d (.agg (av k F))) w) : PL P ops Q (o :: rest) a w := by
 refine pl_to hw d hd (.agg (av k F)) w ?_ h
 unfold execOp
 have hl := run_loadAt_mid (P := P) w g off ty (av k F).toList t (fun j v hv => by
  obtain ⟨hj, rfl⟩ := av_toList_get k F j v hv
  exact hp w M j hj) hu ht (by rw [hz]; simp [av_size])
 simp only [ho, hx, Sem.run_bind, hl, Result.andThen_ok, Sem.run_pure, Array.toArray_toList]
end
theorem c_top {ya yb ye yf : Yb} (l4 : Option Addr) (b4 o4 n4 k4 : Nat) (Bf Cf : Nat → Bool) (Y : Nat → ByteArray) (Wh At Tn : Nat → Nat) (hl1 : 0 < n4 → l4 = some ⟨b4, o4, none⟩) (hm1 : n4 ≤ 9223372036854775807) (hB : ∀ j, j < n4 → (Y j).size ≤ 140737488351232) (hW : ∀ j, j < n4 → Wh j < 256) (hA : ∀ j, j < n4 → At j < 65536) (w : World) (hL : Laid w) (h0 : ∀ j, j < n4 → w.cell? ⟨b4, o4 + j * 6 + 0, none⟩ = some (.bool (Bf j))) (h1 : ∀ j, j < n4 → w.cell? ⟨b4, o4 + j * 6 + 1, none⟩ = some (.bool (Cf j))) (h2 : ∀ j, j < n4 → w.cell? ⟨b4, o4 + j * 6 + 2, none⟩ = some (.string (Y j))) (h3 : ∀ j, j < n4 → w.cell? ⟨b4, o4 + j * 6 + 3, none⟩ = some (.int .u8 ((Wh j : Nat) : Int))) (h4 : ∀ j, j < n4 → w.cell? ⟨b4, o4 + j * 6 + 4, none⟩ = some (.int .u16 ((At j : Nat) : Int))) (h5 : ∀ j, j < n4 → w.cell? ⟨b4, o4 + j * 6 + 5, none⟩ = some (.int .u8 ((Tn j : Nat) : Int))) : Cs 3 #[.agg (av 4 (ls [.string ya, .string yb, .string ye, .string yf])), .slice l4 n4 k4] w (.bool true) := by
 go_enter Tryz.func3, Tryz.ntmps3
 have M := Mem.start hL
 refine sR ?_
 refine pN M 2 (.cells (av 4 (ls [.string ya, .string yb, .string ye, .string yf])) 23) fun g1 u1 M => ?_
 replace M : Mem ⟨w, []⟩ [⟨g1, .cells (av 4 (ls [.string ya, .string yb, .string ye, .string yf])) 23⟩] u1 := M
 refine rV 1 <| nT <| sq <| wp_seq <| sq ?_
 refine wp_block ?_
 refine au_loop (fun j a w' => ∃ v1 : NV, a = (fm ([.agg (av 4 (ls [.string ya, .string yb, .string ye, .string yf])), .slice l4 n4 k4, .pointer (some ⟨g1, 0, none⟩), undef, .bool false, .int .i64 ((tot Y j : Nat) : Int), .int .i64 (j : Int)] ++ und 15 ++ vr v1 22 19 ++ und 205)) ∧ Mem ⟨w, []⟩ [⟨g1, .cells (av 4 (ls [.string ya, .string yb, .string ye, .string yf])) 23⟩] w') n4 (exS M) ?_ ?_
 ·intro j a u0 hj hI
  obtain ⟨v1, rfl, M⟩ := hI
  have hBj := hB j hj
  refine wp_seq <| sR <| rV 3 ?_
  refine ZT 25 ((j : Int) < (n4 : Int)) ?_
  refine rV 2 ?_
  by_cases c0 : 4096 < ((tot Y j : Nat) : Int)
  ·refine pl_val (want_on 4 true rfl 26 rfl (by kernel_rfl)) (some 28) rfl (.bool false) (fun w => Eq.trans (b := .ok (.value (.bool (decide (((tot Y j : Nat) : Int) ≤ 4096)))) w) (by kernel_rfl) (by rw [decide_eq_false (by omega)])) ?_
   refine rV 1 <| nT <| cF ?_
   refine wp_exit ?_
   refine au_then_exit ?_
   refine au_then_exit ?_
   refine au_block_exit ?_
   refine au_then <| wp_seq <| sR <| rV 1 ?_
   refine pH 42 (.bool true) (jT (4096 < ((tot Y j : Nat) : Int)) (c0)) ?_
   refine rV 29 <| nT <| cT <| sR ?_
   refine ZC M 72 (fun w M => c_speaks w M.laid) fun u2 M => ?_
   refine rV 1 <| nT <| wp_ret <| au_then_ret ?_
   exact b1 M
  ·refine pl_val (want_on 4 true rfl 26 rfl (by kernel_rfl)) (some 28) rfl (.bool true) (fun w => Eq.trans (b := .ok (.value (.bool (decide (((tot Y j : Nat) : Int) ≤ 4096)))) w) (by kernel_rfl) (by rw [decide_eq_true (by omega)])) ?_
   refine rV 1 <| nT <| cT <| wp_skip <| au_then ?_
   refine wp_seq ?_
   refine wp_block ?_
   refine rg_lit ?_
   refine rV 1 ?_
   refine pH 33 (.int .i64 (((tot Y j : Nat) : Int) + 8)) (fun w => Eq.trans (b := .ok (.value (.int .i64 (IntKind.wrap .i64 (((tot Y j : Nat) : Int) + 8)))) w) (by kernel_rfl) (by rw [wrap64 (by omega) (by omega)])) ?_
   refine rV 2 ?_
   refine pH 36 (.pointer (some ⟨b4, (o4 + j * 6), none⟩)) (run_ixK 24 27 6 Tryz.underlying24 inz27 _ _ rfl l4 b4 o4 n4 k4 (by kernel_rfl) (hl1 (by omega)) .i64 j (by kernel_rfl) (by omega)) ?_
   refine rV 1 ?_
   refine pE M 38 b4 ((o4 + j * 6) + 2) (.string (Y j)) (fun w M => M.oldc (h2 j (by omega)) (by simp)) ?_
   refine rV 1 ?_
   refine pH 40 (.int .i64 ((tot Y (j + 1) : Nat) : Int)) (fun w => Eq.trans (b := .ok (.value (.int .i64 (IntKind.wrap .i64 ((((tot Y j : Nat) : Int) + 8) + ((Y j).size : Int))))) w) (by kernel_rfl) (by rw [wrap64 (by omega) (by omega), tot_succ])) ?_
   refine rV 1 ?_
   refine pl_nil ?_
   refine au_block ?_
   refine au_then ?_
   refine rg_lit ?_
   refine rV 1 ?_
   refine pH 31 (.int .i64 ((j + 1 : Nat) : Int)) (fun w => Eq.trans (b := .ok (.value (.int .i64 (IntKind.wrap .i64 ((j : Int) + 1)))) w) (by kernel_rfl) (by rw [wrap64 (by omega) (by omega)]; rfl)) ?_
   refine rV 1 <| nT ?_
   exact exS M
 ·intro a u0 hI
  obtain ⟨v1, rfl, M⟩ := hI
  refine wp_seq <| sR <| rV 3 ?_
  refine ZF 25 ((n4 : Int) < (n4 : Int)) ?_
  refine rV 4 <| nT <| cF ?_
  refine wp_exit ?_
  refine au_then_exit ?_
  refine au_then_exit ?_
  refine au_block_exit ?_
  refine au_then <| wp_seq <| sR <| rV 1 ?_
  by_cases c0 : 4096 < ((tot Y n4 : Nat) : Int)
  ·refine pH 42 (.bool true) (jT (4096 < ((tot Y n4 : Nat) : Int)) (c0)) ?_
   refine rV 29 <| nT <| cT <| sR ?_
   refine ZC M 72 (fun w M => c_speaks w M.laid) fun u2 M => ?_
   refine rV 1 <| nT <| wp_ret <| au_then_ret ?_
   exact b1 M
  ·refine pH 42 (.bool false) (jF (4096 < ((tot Y n4 : Nat) : Int)) (c0)) ?_
   refine rV 3 ?_
   by_cases c1 : 40 < (n4 : Int)
   ·refine pl_val (want_on 2 false rfl 43 rfl (by kernel_rfl)) (some 46) rfl (.bool true) (fun w => Eq.trans (b := .ok (.value (.bool (decide (40 < (n4 : Int))))) w) (by kernel_rfl) (by rw [decide_eq_true (c1)])) ?_
    refine rV 25 <| nT <| cT <| sR ?_
    refine ZC M 72 (fun w M => c_speaks w M.laid) fun u2 M => ?_
    refine rV 1 <| nT <| wp_ret <| au_then_ret ?_
    exact b1 M
   ·refine pl_val (want_on 2 false rfl 43 rfl (by kernel_rfl)) (some 46) rfl (.bool false) (fun w => Eq.trans (b := .ok (.value (.bool (decide (40 < (n4 : Int))))) w) (by kernel_rfl) (by rw [decide_eq_false (c1)])) ?_
    refine rV 3 ?_
    refine pl_cell M (want_on 7 false rfl 48 rfl (by kernel_rfl)) (some 50) rfl 9 _ rfl g1 0 (by kernel_rfl) (.string ya) (fun _ => by kernel_rfl) (fun w M => M.cell 0 rfl (by decide) rfl) ?_
    refine rV 1 ?_
    by_cases c2 : (ya.size : Int) = 32
    ·refine pl_val (want_on 7 false rfl 48 rfl (by kernel_rfl)) (some 52) rfl (.bool false) (fun w => Eq.trans (b := .ok (.value (.bool (!(decide ((ya.size : Int) = 32))))) w) (by kernel_rfl) (by rw [decide_eq_true (c2)]; rfl)) ?_
     refine rV 3 ?_
     refine pl_cell M (want_on 13 false rfl 54 rfl (by kernel_rfl)) (some 56) rfl 9 _ rfl g1 1 (by kernel_rfl) (.string yb) (fun _ => by kernel_rfl) (fun w M => M.cell 0 rfl (by decide) rfl) ?_
     refine rV 1 ?_
     by_cases c3 : (yb.size : Int) = 32
     ·refine pl_val (want_on 13 false rfl 54 rfl (by kernel_rfl)) (some 58) rfl (.bool false) (fun w => Eq.trans (b := .ok (.value (.bool (!(decide ((yb.size : Int) = 32))))) w) (by kernel_rfl) (by rw [decide_eq_true (c3)]; rfl)) ?_
      refine rV 3 ?_
      refine pl_cell M (want_on 19 false rfl 60 rfl (by kernel_rfl)) (some 62) rfl 9 _ rfl g1 2 (by kernel_rfl) (.string ye) (fun _ => by kernel_rfl) (fun w M => M.cell 0 rfl (by decide) rfl) ?_
      refine rV 1 ?_
      by_cases c4 : (ye.size : Int) = 32
      ·refine pl_val (want_on 19 false rfl 60 rfl (by kernel_rfl)) (some 64) rfl (.bool false) (fun w => Eq.trans (b := .ok (.value (.bool (!(decide ((ye.size : Int) = 32))))) w) (by kernel_rfl) (by rw [decide_eq_true (c4)]; rfl)) ?_
       refine rV 3 ?_
       refine pl_cell M (want_on 25 false rfl 66 rfl (by kernel_rfl)) (some 68) rfl 9 _ rfl g1 3 (by kernel_rfl) (.string yf) (fun _ => by kernel_rfl) (fun w M => M.cell 0 rfl (by decide) rfl) ?_
       refine rV 1 ?_
       by_cases c5 : (yf.size : Int) = 32
       ·refine pl_val (want_on 25 false rfl 66 rfl (by kernel_rfl)) (some 70) rfl (.bool false) (fun w => Eq.trans (b := .ok (.value (.bool (!(decide ((yf.size : Int) = 32))))) w) (by kernel_rfl) (by rw [decide_eq_true (c5)]; rfl)) ?_
        refine rV 1 <| nT <| cF <| wp_skip <| au_then ?_
        refine sR ?_
        refine pN M 7 (.cells (av 2 (ls [.pointer none, .pointer none])) 30) fun g2 u2 M => ?_
        replace M : Mem ⟨w, []⟩ [⟨g1, .cells (av 4 (ls [.string ya, .string yb, .string ye, .string yf])) 23⟩, ⟨g2, .cells (av 2 (ls [.pointer none, .pointer none])) 30⟩] u2 := M
        refine nT <| wp_seq ?_
        refine rg_held M [⟨g1, .cells (av 4 (ls [.string ya, .string yb, .string ye, .string yf])) 23⟩, ⟨g2, .cells (av 2 (ls [.pointer none, .pointer none])) 30⟩] 7 rfl (by kernel_rfl) (by kernel_rfl) (fun _ _ d _ _ h => by cases d <;> exact h) fun u3 M => ?_
        replace M : Mem ⟨w, []⟩ [⟨g1, .cells (av 4 (ls [.string ya, .string yb, .string ye, .string yf])) 23⟩, ⟨g2, .cells (av 2 (ls [.pointer none, .pointer none])) 30⟩] u3 := M
        refine hl_load M 0 rfl (by decide) (by kernel_rfl) (by kernel_rfl) (want_no rfl) (some 74) rfl 23 _ rfl 0 g1 0 (by kernel_rfl) 4 23 (ls [.string ya, .string yb, .string ye, .string yf]) rfl 4 (ls [.string ya, .string yb, .string ye, .string yf]) (fun j _ => by rw [Nat.zero_add]) (by decide) _ Tryz.underlying23 rfl inz23 ?_
        refine hl_one 1 (by decide) (by kernel_rfl) rfl ?_
        refine ZC M 75 (fun w M => c_limits w M.laid) fun u4 M => ?_
        refine nT ?_
        refine ⟨M, ?_⟩
        refine hl_one 2 (by decide) (by kernel_rfl) rfl ?_
        refine pl_callM M (want_no rfl) (some 76) rfl 6 #[.agg (av 4 (ls [.string ya, .string yb, .string ye, .string yf])), .agg (av 5 (ls [.int .u64 40, .int .u64 50, .int .u64 10, .int .u64 20, .int .i64 64]))] [⟨g1, .cells (av 4 (ls [.string ya, .string yb, .string ye, .string yf])) 23⟩, ⟨g2, .cells (av 2 (ls [.pointer none, .pointer none])) 30⟩] [] [] (by simp only [List.append_assoc, List.cons_append, List.nil_append, List.append_nil]) (fun x : ((Nat × List Blk) × Nat × List Blk) × ByteArray × ByteArray => .tuple #[.pointer (some ⟨x.1.1.1, 0, none⟩), .pointer (some ⟨x.1.2.1, 0, none⟩)]) (fun x : ((Nat × List Blk) × Nat × List Blk) × ByteArray × ByteArray => x.1.2.2 ++ x.1.1.2) (fun x : ((Nat × List Blk) × Nat × List Blk) × ByteArray × ByteArray => (x.2.1.size = 32 ∧ x.2.2.size = 32) ∧ IsT x.1.1.1 (tsA x.2.1 x.2.2 0 []) x.1.1.2 ∧ IsT x.1.2.1 (tsB x.2.1 x.2.2 0 false []) x.1.2.2) (fun _ => by kernel_rfl) (fun w hL hT => c_shakenO (by omega) (by omega) (by omega) (by omega) w hL) ?_
        rintro ⟨⟨⟨pa, Tpa⟩, pb, Tpb⟩, KA, KB⟩ u5 ⟨⟨hKA, hKB⟩, Hpa, Hpb⟩ M
        replace M : Mem ⟨w, []⟩ (⟨g1, .cells (av 4 (ls [.string ya, .string yb, .string ye, .string yf])) 23⟩ :: ⟨g2, .cells (av 2 (ls [.pointer none, .pointer none])) 30⟩ :: (Tpb ++ Tpa)) u5 := by simpa only [List.append_assoc, List.cons_append, List.nil_append, List.append_nil] using M
        refine nT ?_
        refine ⟨(M.drop (.cons_cons _ (.cons_cons _ (List.nil_sublist _)))), ?_⟩
        refine qV (M.drop (.cons_cons _ (.cons_cons _ (List.nil_sublist _)))) 3 73 (.tuple #[.pointer (some ⟨pa, 0, none⟩), .pointer (some ⟨pb, 0, none⟩)]) ?_
        refine qV (M.drop (.cons_cons _ (.cons_cons _ (List.nil_sublist _)))) 4 77 (.pointer (some ⟨pa, 0, none⟩)) ?_
        refine qV (M.drop (.cons_cons _ (.cons_cons _ (List.nil_sublist _)))) 5 78 (.pointer (some ⟨pb, 0, none⟩)) ?_
        refine qV (M.drop (.cons_cons _ (.cons_cons _ (List.nil_sublist _)))) 6 8 (.pointer (some ⟨pa, 0, none⟩)) ?_
        refine hl_end (by kernel_rfl) (by kernel_rfl) rfl ?_
        refine rV 1 <| nT <| au_then <| sR <| rV 2 ?_
        refine pP M 1 rfl 0 (.pointer (some ⟨pa, 0, none⟩)) (ls [.pointer (some ⟨pa, 0, none⟩), .pointer none]) (by decide) (put_ls _ 0 _ _ rfl) fun u6 M => ?_
        replace M : Mem ⟨w, []⟩ (⟨g1, .cells (av 4 (ls [.string ya, .string yb, .string ye, .string yf])) 23⟩ :: ⟨g2, .cells (av 2 (ls [.pointer (some ⟨pa, 0, none⟩), .pointer none])) 30⟩ :: (Tpb ++ Tpa)) u6 := M
        refine nT <| sR <| rV 2 ?_
        refine pP M 1 rfl 1 (.pointer (some ⟨pb, 0, none⟩)) (ls [.pointer (some ⟨pa, 0, none⟩), .pointer (some ⟨pb, 0, none⟩)]) (by decide) (put_ls _ 1 _ _ rfl) fun u7 M => ?_
        replace M : Mem ⟨w, []⟩ (⟨g1, .cells (av 4 (ls [.string ya, .string yb, .string ye, .string yf])) 23⟩ :: ⟨g2, .cells (av 2 (ls [.pointer (some ⟨pa, 0, none⟩), .pointer (some ⟨pb, 0, none⟩)])) 30⟩ :: (Tpb ++ Tpa)) u7 := M
        refine nT <| wp_seq <| sq <| cF <| wp_skip ?_
        refine au_then <| sR ?_
        refine pN M 10 (.cells (av 2 (ls [.slice none 0 0, .slice none 0 0])) 38) fun g3 u8 M => ?_
        replace M := M.front
        replace M : Mem ⟨w, []⟩ (⟨g3, .cells (av 2 (ls [.slice none 0 0, .slice none 0 0])) 38⟩ :: ⟨g1, .cells (av 4 (ls [.string ya, .string yb, .string ye, .string yf])) 23⟩ :: ⟨g2, .cells (av 2 (ls [.pointer (some ⟨pa, 0, none⟩), .pointer (some ⟨pb, 0, none⟩)])) 30⟩ :: (Tpb ++ Tpa)) u8 := M
        refine nT <| wp_seq <| sq ?_
        refine wp_block ?_
        refine au_loop (fun j a w' => ∃ (v2 : NV) (na nb : Nat) (Xa Xb : Nat → ByteArray) (qa qb : List Nat) (sub : Bool) (sv0 sv1 : Value) (Ta Tb T0 T1 : List Blk), a = (fm ([.agg (av 4 (ls [.string ya, .string yb, .string ye, .string yf])), .slice l4 n4 k4, .pointer (some ⟨g1, 0, none⟩), undef, v2 4, .int .i64 ((tot Y n4 : Nat) : Int), .int .i64 (n4 : Int), .pointer (some ⟨g2, 0, none⟩), .pointer (some ⟨pa, 0, none⟩), .pointer (some ⟨pb, 0, none⟩), .pointer (some ⟨g3, 0, none⟩), .int .i64 (j : Int)] ++ vr v2 12 10 ++ [.int .i64 (n4 : Int), .slice l4 n4 k4, .int .i64 (n4 : Int), .bool false, .bool false, undef, undef, .bool false] ++ vr v1 30 11 ++ [.int .i64 ((tot Y n4 : Nat) : Int), .bool false, .bool false, .slice l4 n4 k4, .int .i64 (n4 : Int), .bool false, .bool false, .bool false, .pointer (some ⟨g1, 0, none⟩), .string ya, .int .i64 (ya.size : Int), .bool false, .bool false, .bool false, .pointer (some ⟨g1, 1, none⟩), .string yb, .int .i64 (yb.size : Int), .bool false, .bool false, .bool false, .pointer (some ⟨g1, 2, none⟩), .string ye, .int .i64 (ye.size : Int), .bool false, .bool false, .bool false, .pointer (some ⟨g1, 3, none⟩), .string yf, .int .i64 (yf.size : Int), .bool false, .bool false, undef, .tuple #[.pointer (some ⟨pa, 0, none⟩), .pointer (some ⟨pb, 0, none⟩)], .agg (av 4 (ls [.string ya, .string yb, .string ye, .string yf])), .agg (av 5 (ls [.int .u64 40, .int .u64 50, .int .u64 10, .int .u64 20, .int .i64 64])), .tuple #[.pointer (some ⟨pa, 0, none⟩), .pointer (some ⟨pb, 0, none⟩)], .pointer (some ⟨pa, 0, none⟩), .pointer (some ⟨pb, 0, none⟩), .pointer (some ⟨pa, 0, none⟩), .pointer (some ⟨g2, 0, none⟩), .pointer (some ⟨pb, 0, none⟩), .pointer (some ⟨g2, 1, none⟩), .pointer (some ⟨pa, 0, none⟩), .bool false, .bool false, .pointer (some ⟨pb, 0, none⟩), .bool false, .bool false] ++ vr v2 89 156 ++ [undef])) ∧ Mem ⟨w, []⟩ (⟨g3, .cells (av 2 (ls [sv0, sv1])) 38⟩ :: ⟨g2, .cells (av 2 (ls [.pointer (some ⟨pa, 0, none⟩), .pointer (some ⟨pb, 0, none⟩)])) 30⟩ :: (Tb ++ (Ta ++ (T0 ++ T1)))) w' ∧ (IsT pa (tsA KA KB na qa) Ta) ∧ (IsT pb (tsB KA KB nb sub qb) Tb) ∧ (SlV 4 (sL KA Xa qb na) na sv0 T0) ∧ (SlV 4 (sL KB Xb qa nb) nb sv1 T1) ∧ (na ≤ j) ∧ (nb ≤ j) ∧ (∀ t ∈ qa, t < nb) ∧ (∀ t ∈ qb, t < na) ∧ (∀ t, t < na → (Xa t).size ≤ 4096) ∧ (∀ t, t < nb → (Xb t).size ≤ 4096)) n4 ⟨fun k_ => ([.bool false, undef, undef, undef, undef, undef, undef, undef, undef, undef, undef, undef, undef, undef, undef, undef, undef, undef, undef, undef, undef, undef, undef, undef, undef, undef, undef, undef, undef, undef, undef, undef, undef, undef, undef, undef, undef, undef, undef, undef, undef, undef, undef, undef, undef, undef, undef, undef, undef, undef, undef, undef, undef, undef, undef, undef, undef, undef, undef, undef, undef, undef, undef, undef, undef, undef, undef, undef, undef, undef, undef, undef, undef, undef, undef, undef, undef, undef, undef, undef, undef, undef, undef, undef, undef, undef, undef, undef, undef, undef, undef, undef, undef, undef, undef, undef, undef, undef, undef, undef, undef, undef, undef, undef, undef, undef, undef, undef, undef, undef, undef, undef, undef, undef, undef, undef, undef, undef, undef, undef, undef, undef, undef, undef, undef, undef, undef, undef, undef, undef, undef, undef, undef, undef, undef, undef, undef, undef, undef, undef, undef, undef, undef, undef, undef, undef, undef, undef, undef, undef, undef, undef, undef, undef, undef, undef, undef, undef, undef, undef, undef, undef, undef, undef, undef, undef, undef, undef, undef, undef, undef, undef, undef, undef, undef, undef, undef, undef, undef, undef, undef, undef, undef, undef, undef, undef, undef, undef, undef, undef, undef, undef, undef, undef, undef, undef, undef, undef, undef, undef, undef, undef, undef, undef, undef, undef, undef, undef, undef, undef, undef, undef, undef, undef, undef, undef, undef, undef, undef, undef, undef, undef, undef, undef, undef, undef, undef, undef, undef, undef, undef, undef, undef, undef, undef, undef, undef, undef, undef, undef, undef] : List Value).getD (k_ - 4) undef, 0, 0, (fun _ => ⟨#[]⟩), (fun _ => ⟨#[]⟩), [], [], false, .slice none 0 0, .slice none 0 0, Tpa, Tpb, [], [], by kernel_rfl, by simpa only [List.append_assoc, List.cons_append, List.nil_append, List.append_nil] using (M.drop (.cons_cons _ (.cons _ (.cons_cons _ (List.Sublist.refl _))))), Hpa, Hpb, slv_nil 4, slv_nil 4, Nat.zero_le _, Nat.zero_le _, fun _ h => absurd h List.not_mem_nil, fun _ h => absurd h List.not_mem_nil, fun _ h => absurd h (Nat.not_lt_zero _), fun _ h => absurd h (Nat.not_lt_zero _)⟩ ?_ ?_
        ·intro j a u0 hj hI
         obtain ⟨v2, na, nb, Xa, Xb, qa, qb, sub, sv0, sv1, Ta, Tb, T0, T1, rfl, M, Ha, Hb, hs0, hs1, hna, hnb, hqa, hqb, hXa, hXb⟩ := hI
         have hsz := tot_ge Y n4 j hj
         refine wp_seq <| sR <| rV 3 ?_
         refine ZT 92 ((j : Int) < (n4 : Int)) ?_
         refine nT <| cT <| wp_skip <| au_then <| wp_seq ?_
         refine wp_block ?_
         refine sq <| wp_seq <| sR <| rV 2 ?_
         refine pH 97 (.pointer (some ⟨b4, (o4 + j * 6), none⟩)) (run_ixK 24 27 6 Tryz.underlying24 inz27 _ _ rfl l4 b4 o4 n4 k4 (by kernel_rfl) (hl1 (by omega)) .i64 j (by kernel_rfl) (by omega)) ?_
         refine rV 1 ?_
         refine pE M 99 b4 ((o4 + j * 6) + 0) (.bool ((Bf j))) (fun w M => M.oldc (h0 j (by omega)) (by simp)) ?_
         refine nT ?_
         rcases Bool.eq_false_or_eq_true ((Bf j)) with c6 | c6
         ·rw [c6]
          refine cT ?_
          refine rg_lit ?_
          refine rV 1 <| nT <| wp_seq <| sR <| rV 2 ?_
          refine pH 102 (.pointer (some ⟨b4, (o4 + j * 6), none⟩)) (run_ixK 24 27 6 Tryz.underlying24 inz27 _ _ rfl l4 b4 o4 n4 k4 (by kernel_rfl) (hl1 (by omega)) .i64 j (by kernel_rfl) (by omega)) ?_
          refine rV 1 ?_
          refine pE M 104 b4 ((o4 + j * 6) + 1) (.bool ((Cf j))) (fun w M => M.oldc (h1 j (by omega)) (by simp)) ?_
          rcases Bool.eq_false_or_eq_true ((Cf j)) with c7 | c7
          ·refine pH 105 (.bool false) (fun w => Eq.trans (b := .ok (.value (.bool (!(Cf j)))) w) (by kernel_rfl) (by rw [c7]; rfl)) ?_
           refine nT <| cF <| wp_skip <| au_then <| sR ?_
           refine rV 3 <| ZE M 147 0 0 <| rV 1 <| nT <| wp_seq ?_
           refine sR <| rV 1 ?_
           refine pH 149 (.int .i64 ((na : Nat) : Int)) (fun w => by rcases hs0.ex with ⟨hn_, rfl, _⟩ | ⟨_, _, _, _, rfl, _⟩; (rw [hn_]; kernel_rfl); kernel_rfl) ?_
           by_cases c8 : ((na : Nat) : Int) = 0
           ·refine pH 150 (.bool true) (jT (((na : Nat) : Int) = 0) (c8)) ?_
            refine nT <| cT ?_
            refine wp_exit ?_
            refine au_then_exit ?_
            refine au_block_exit ?_
            refine au_then ?_
            refine rg_lit ?_
            refine rV 1 ?_
            refine pH 94 (.int .i64 ((j + 1 : Nat) : Int)) (fun w => Eq.trans (b := .ok (.value (.int .i64 (IntKind.wrap .i64 ((j : Int) + 1)))) w) (by kernel_rfl) (by rw [wrap64 (by omega) (by omega)]; rfl)) ?_
            refine rV 1 <| nT ?_
            exact ⟨fun k_ => ([v2 4, undef, undef, undef, undef, undef, undef, undef, .int .i64 1, v2 13, v2 14, v2 15, sv0, v2 17, v2 18, v2 19, v2 20, v2 21, undef, undef, undef, undef, undef, undef, undef, undef, undef, undef, undef, undef, undef, undef, undef, undef, undef, undef, undef, undef, undef, undef, undef, undef, undef, undef, undef, undef, undef, undef, undef, undef, undef, undef, undef, undef, undef, undef, undef, undef, undef, undef, undef, undef, undef, undef, undef, undef, undef, undef, undef, undef, undef, undef, undef, undef, undef, undef, undef, undef, undef, undef, undef, undef, undef, undef, undef, .int .i64 (j : Int), .slice l4 n4 k4, .int .i64 (n4 : Int), .bool true, .int .i64 (j : Int), .int .i64 ((j + 1 : Nat) : Int), .slice l4 n4 k4, .int .i64 (j : Int), .pointer (some ⟨b4, (o4 + j * 6), none⟩), .pointer (some ⟨b4, ((o4 + j * 6) + 0), none⟩), .bool true, .slice l4 n4 k4, .int .i64 (j : Int), .pointer (some ⟨b4, (o4 + j * 6), none⟩), .pointer (some ⟨b4, ((o4 + j * 6) + 1), none⟩), .bool ((Cf j)), .bool false, v2 106, v2 107, v2 108, v2 109, v2 110, v2 111, v2 112, v2 113, v2 114, v2 115, v2 116, v2 117, v2 118, v2 119, v2 120, v2 121, v2 122, v2 123, v2 124, v2 125, v2 126, v2 127, v2 128, v2 129, v2 130, v2 131, v2 132, v2 133, v2 134, v2 135, v2 136, v2 137, v2 138, v2 139, v2 140, v2 141, v2 142, v2 143, .int .i64 1, .int .i64 0, .pointer (some ⟨g3, 0, none⟩), sv0, sv0, .int .i64 ((na : Nat) : Int), .bool true, v2 151, v2 152, v2 153, v2 154, v2 155, v2 156, v2 157, v2 158, v2 159, v2 160, v2 161, v2 162, v2 163, v2 164, v2 165, v2 166, v2 167, v2 168, v2 169, v2 170, v2 171, v2 172, v2 173, v2 174, v2 175, v2 176, v2 177, v2 178, v2 179, v2 180, v2 181, v2 182, v2 183, v2 184, v2 185, v2 186, v2 187, v2 188, v2 189, v2 190, v2 191, v2 192, v2 193, v2 194, v2 195, v2 196, v2 197, v2 198, v2 199, v2 200, v2 201, v2 202, v2 203, v2 204, v2 205, v2 206, v2 207, v2 208, v2 209, v2 210, v2 211, v2 212, v2 213, v2 214, v2 215, v2 216, v2 217, v2 218, v2 219, v2 220, v2 221, v2 222, v2 223, v2 224, v2 225, v2 226, v2 227, v2 228, v2 229, v2 230, v2 231, v2 232, v2 233, v2 234, v2 235, v2 236, v2 237, v2 238, v2 239, v2 240, v2 241, v2 242, v2 243, v2 244] : List Value).getD (k_ - 4) undef, na, nb, Xa, Xb, qa, qb, sub, sv0, sv1, Ta, Tb, T0, T1, by kernel_rfl, M, Ha, Hb, hs0, hs1, by omega, by omega, hqa, hqb, hXa, hXb⟩
           ·refine pH 150 (.bool false) (jF (((na : Nat) : Int) = 0) (c8)) ?_
            refine nT <| cF <| wp_skip <| au_then <| sR ?_
            refine rV 2 ?_
            refine pH 153 (.pointer (some ⟨b4, (o4 + j * 6), none⟩)) (run_ixK 24 27 6 Tryz.underlying24 inz27 _ _ rfl l4 b4 o4 n4 k4 (by kernel_rfl) (hl1 (by omega)) .i64 j (by kernel_rfl) (by omega)) ?_
            refine rV 1 ?_
            refine pE M 155 b4 ((o4 + j * 6) + 3) (.int .u8 ((Wh j : Nat) : Int)) (fun w M => M.oldc (h3 j (by omega)) (by simp)) ?_
            refine pH 156 (.int .i64 ((Wh j : Nat) : Int)) (fun w => Eq.trans (b := .ok (.value (.int .i64 (cv .i64 ((Wh j : Nat) : Int)))) w) (by kernel_rfl) (by have := hW j hj; rw [cv_i64 (by omega) (by omega)])) ?_
            refine rV 1 ?_
            refine pH 158 (.int .i64 ((na : Nat) : Int)) (fun w => by rcases hs0.ex with ⟨hn_, rfl, _⟩ | ⟨_, _, _, _, rfl, _⟩; (rw [hn_]; kernel_rfl); kernel_rfl) ?_
            refine pH 159 (.int .i64 ((Wh j % na : Nat) : Int)) (run_remN 3 3 _ _ rfl (Wh j) na (by kernel_rfl) (by kernel_rfl) (by omega)) ?_
            refine rV 1 ?_
            refine pl_nil ?_
            have hr := Nat.mod_lt (Wh j) (show 0 < na by omega)
            generalize Wh j % na = r at hr ⊢
            have hXr := hXa r hr
            have hat := sL_at KA Xa qb hr
            have hcs := sealS_size KA (nS (r : Int)) ⟨#[]⟩ (Xa r)
            obtain ⟨cc, hcc⟩ : ∃ cc, sealS KA (nS (r : Int)) ⟨#[]⟩ (Xa r) = cc := ⟨_, rfl⟩
            rw [hcc] at hat hcs
            have hK := Nat.mod_lt (At j) (show 0 < cc.size by omega)
            obtain ⟨kk, hkk⟩ : ∃ kk, At j % cc.size = kk := ⟨_, rfl⟩
            rw [hkk] at hK
            have hSk := hs0
            rcases hs0.ex with ⟨h0_, -, -⟩ | ⟨g9, cap9, Z9, hn_g9, rfl, hle_g9, hZ9, rfl⟩
            ·exfalso; omega
            refine au_then <| sR <| rV 2 ?_
            refine pH 162 (.pointer (some ⟨g9, (0 + r * 4), none⟩)) (run_ixK 37 43 4 Tryz.underlying37 inz43 _ _ rfl (some ⟨g9, 0, none⟩) g9 0 na cap9 (by kernel_rfl) rfl .i64 r (by kernel_rfl) hr) ?_
            refine pl_loadO M (want_no rfl) (some 163) rfl 43 _ rfl g9 (0 + r * 4) (by kernel_rfl) 4 (ls [.int .u64 (r : Int), .string cc, .string (Xa r), .int .i64 (cn qb r)]) (fun w M k hk => ?_) _ Tryz.underlying43 rfl inz43 ?_
            ·have hz9 : w.heap[g9]? = some Z9 := (M.thereM (pre := (⟨g3, .cells (av 2 (ls [.slice (some ⟨g9, 0, none⟩) na cap9, sv1])) 38⟩ :: ⟨g2, .cells (av 2 (ls [.pointer (some ⟨pa, 0, none⟩), .pointer (some ⟨pb, 0, none⟩)])) 30⟩ :: (Tb ++ Ta))) (T := [⟨g9, Z9⟩]) (suf := T1) (by simp only [List.append_assoc, List.cons_append, List.nil_append, List.append_nil])).at_ ⟨g9, Z9⟩ (by simp)
             match k, hk with
             | 0, _ => exact hZ9.cell hz9 (by rw [show 0 + r * 4 + 0 = r * 4 + 0 by omega]; exact hat.1)
             | 1, _ => exact hZ9.cell hz9 (by rw [show 0 + r * 4 + 1 = r * 4 + 1 by omega]; exact hat.2.1)
             | 2, _ => exact hZ9.cell hz9 (by rw [show 0 + r * 4 + 2 = r * 4 + 2 by omega]; exact hat.2.2.1)
             | 3, _ => exact hZ9.cell hz9 (by rw [show 0 + r * 4 + 3 = r * 4 + 3 by omega]; exact hat.2.2.2)
            refine pN M 18 (.cells (av 4 (ls [.int .u64 0, .string ⟨#[]⟩, .string ⟨#[]⟩, .int .i64 0])) 43) fun g4 u9 M => ?_
            replace M := M.front
            replace M : Mem ⟨w, []⟩ (⟨g4, .cells (av 4 (ls [.int .u64 0, .string ⟨#[]⟩, .string ⟨#[]⟩, .int .i64 0])) 43⟩ :: ⟨g3, .cells (av 2 (ls [.slice (some ⟨g9, 0, none⟩) na cap9, sv1])) 38⟩ :: ⟨g2, .cells (av 2 (ls [.pointer (some ⟨pa, 0, none⟩), .pointer (some ⟨pb, 0, none⟩)])) 30⟩ :: (Tb ++ (Ta ++ ([⟨g9, Z9⟩] ++ T1)))) u9 := M
            refine pl_put M (want_no rfl) rfl 43 _ _ rfl 0 g4 0 (by kernel_rfl) 4 43 (ls [.int .u64 0, .string ⟨#[]⟩, .string ⟨#[]⟩, .int .i64 0]) rfl 4 (ls [.int .u64 (r : Int), .string cc, .string (Xa r), .int .i64 (cn qb r)]) (ls [.int .u64 (r : Int), .string cc, .string (Xa r), .int .i64 (cn qb r)]) (by kernel_rfl) inz43 (by decide) (one_ls _ rfl) (fun j hj => by rw [if_pos (by omega), Nat.sub_zero]) fun u10 M => ?_
            replace M : Mem ⟨w, []⟩ (⟨g4, .cells (av 4 (ls [.int .u64 (r : Int), .string cc, .string (Xa r), .int .i64 (cn qb r)])) 43⟩ :: ⟨g3, .cells (av 2 (ls [.slice (some ⟨g9, 0, none⟩) na cap9, sv1])) 38⟩ :: ⟨g2, .cells (av 2 (ls [.pointer (some ⟨pa, 0, none⟩), .pointer (some ⟨pb, 0, none⟩)])) 30⟩ :: (Tb ++ (Ta ++ ([⟨g9, Z9⟩] ++ T1)))) u10 := M
            refine nT <| sR <| rV 1 <| ZE M 165 0 1 ?_
            refine pl_conv M (want_no rfl) (some 166) rfl _ rfl cc (by kernel_rfl) ?_
            intro g5 cp8 Z8 u11 hZ8 M
            replace M := M.front
            replace M : Mem ⟨w, []⟩ (⟨g5, Z8⟩ :: ⟨g4, .cells (av 4 (ls [.int .u64 (r : Int), .string cc, .string (Xa r), .int .i64 (cn qb r)])) 43⟩ :: ⟨g3, .cells (av 2 (ls [.slice (some ⟨g9, 0, none⟩) na cap9, sv1])) 38⟩ :: ⟨g2, .cells (av 2 (ls [.pointer (some ⟨pa, 0, none⟩), .pointer (some ⟨pb, 0, none⟩)])) 30⟩ :: (Tb ++ (Ta ++ ([⟨g9, Z9⟩] ++ T1)))) u11 := M
            refine rV 1 <| nT <| wp_seq ?_
            refine rg_held M [⟨g5, Z8⟩, ⟨g4, .cells (av 4 (ls [.int .u64 (r : Int), .string cc, .string (Xa r), .int .i64 (cn qb r)])) 43⟩, ⟨g3, .cells (av 2 (ls [.slice (some ⟨g9, 0, none⟩) na cap9, sv1])) 38⟩, ⟨g2, .cells (av 2 (ls [.pointer (some ⟨pa, 0, none⟩), .pointer (some ⟨pb, 0, none⟩)])) 30⟩] 29 rfl (by kernel_rfl) (by kernel_rfl) (fun _ _ d _ _ h => by cases d <;> exact h) fun u12 M => ?_
            replace M : Mem ⟨w, []⟩ (⟨g5, Z8⟩ :: ⟨g4, .cells (av 4 (ls [.int .u64 (r : Int), .string cc, .string (Xa r), .int .i64 (cn qb r)])) 43⟩ :: ⟨g3, .cells (av 2 (ls [.slice (some ⟨g9, 0, none⟩) na cap9, sv1])) 38⟩ :: ⟨g2, .cells (av 2 (ls [.pointer (some ⟨pa, 0, none⟩), .pointer (some ⟨pb, 0, none⟩)])) 30⟩ :: (Tb ++ (Ta ++ ([⟨g9, Z9⟩] ++ T1)))) u12 := M
            refine qV (M.drop (.cons_cons _ (.cons_cons _ (.cons_cons _ (.cons_cons _ (List.nil_sublist _)))))) 0 167 (.slice (some ⟨g5, 0, none⟩) cc.size cp8) ?_
            refine qV (M.drop (.cons_cons _ (.cons_cons _ (.cons_cons _ (.cons_cons _ (List.nil_sublist _)))))) 1 168 (.slice l4 n4 k4) ?_
            refine qV (M.drop (.cons_cons _ (.cons_cons _ (.cons_cons _ (.cons_cons _ (List.nil_sublist _)))))) 2 169 (.int .i64 (j : Int)) ?_
            refine hl_val (M.drop (.cons_cons _ (.cons_cons _ (.cons_cons _ (.cons_cons _ (List.nil_sublist _)))))) 3 rfl (by decide) (by kernel_rfl) (by kernel_rfl) (want_no rfl) (some 170) rfl (.pointer (some ⟨b4, (o4 + j * 6), none⟩)) (fun w _ => (run_ixK 24 27 6 Tryz.underlying24 inz27 _ _ rfl l4 b4 o4 n4 k4 (by kernel_rfl) (hl1 (by omega)) .i64 j (by kernel_rfl) (by omega)) w) ?_
            refine qV (M.drop (.cons_cons _ (.cons_cons _ (.cons_cons _ (.cons_cons _ (List.nil_sublist _)))))) 4 171 (.pointer (some ⟨b4, ((o4 + j * 6) + 4), none⟩)) ?_
            refine hl_cell (M.drop (.cons_cons _ (.cons_cons _ (.cons_cons _ (.cons_cons _ (List.nil_sublist _)))))) 5 rfl (by decide) (by kernel_rfl) (by kernel_rfl) (want_no rfl) (some 172) rfl 25 _ rfl b4 ((o4 + j * 6) + 4) (by kernel_rfl) (.int .u16 ((At j : Nat) : Int)) (fun _ => by kernel_rfl) (fun w M => M.oldc (h4 j (by omega)) (by simp)) ?_
            refine hl_val (M.drop (.cons_cons _ (.cons_cons _ (.cons_cons _ (.cons_cons _ (List.nil_sublist _)))))) 6 rfl (by decide) (by kernel_rfl) (by kernel_rfl) (want_no rfl) (some 173) rfl (.int .i64 ((At j : Nat) : Int)) (fun w _ => (fun w => Eq.trans (b := .ok (.value (.int .i64 (cv .i64 ((At j : Nat) : Int)))) w) (by kernel_rfl) (by have := hA j hj; rw [cv_i64 (by omega) (by omega)])) w) ?_
            refine qV (M.drop (.cons_cons _ (.cons_cons _ (.cons_cons _ (.cons_cons _ (List.nil_sublist _)))))) 7 174 (.slice (some ⟨g5, 0, none⟩) cc.size cp8) ?_
            refine qV (M.drop (.cons_cons _ (.cons_cons _ (.cons_cons _ (.cons_cons _ (List.nil_sublist _)))))) 8 175 (.int .i64 ((cc.size : Nat) : Int)) ?_
            refine hl_val (M.drop (.cons_cons _ (.cons_cons _ (.cons_cons _ (.cons_cons _ (List.nil_sublist _)))))) 9 rfl (by decide) (by kernel_rfl) (by kernel_rfl) (want_no rfl) (some 176) rfl (.int .i64 (kk : Int)) (fun w _ => (fun w => Eq.trans (run_remN 3 3 _ _ rfl (At j) cc.size (by kernel_rfl) (by kernel_rfl) (by omega) w) (by rw [hkk])) w) ?_
            refine qV (M.drop (.cons_cons _ (.cons_cons _ (.cons_cons _ (.cons_cons _ (List.nil_sublist _)))))) 10 177 (.slice (some ⟨g5, 0, none⟩) cc.size cp8) ?_
            refine qV (M.drop (.cons_cons _ (.cons_cons _ (.cons_cons _ (.cons_cons _ (List.nil_sublist _)))))) 11 178 (.slice l4 n4 k4) ?_
            refine qV (M.drop (.cons_cons _ (.cons_cons _ (.cons_cons _ (.cons_cons _ (List.nil_sublist _)))))) 12 179 (.int .i64 (j : Int)) ?_
            refine hl_val (M.drop (.cons_cons _ (.cons_cons _ (.cons_cons _ (.cons_cons _ (List.nil_sublist _)))))) 13 rfl (by decide) (by kernel_rfl) (by kernel_rfl) (want_no rfl) (some 180) rfl (.pointer (some ⟨b4, (o4 + j * 6), none⟩)) (fun w _ => (run_ixK 24 27 6 Tryz.underlying24 inz27 _ _ rfl l4 b4 o4 n4 k4 (by kernel_rfl) (hl1 (by omega)) .i64 j (by kernel_rfl) (by omega)) w) ?_
            refine qV (M.drop (.cons_cons _ (.cons_cons _ (.cons_cons _ (.cons_cons _ (List.nil_sublist _)))))) 14 181 (.pointer (some ⟨b4, ((o4 + j * 6) + 4), none⟩)) ?_
            refine hl_cell (M.drop (.cons_cons _ (.cons_cons _ (.cons_cons _ (.cons_cons _ (List.nil_sublist _)))))) 15 rfl (by decide) (by kernel_rfl) (by kernel_rfl) (want_no rfl) (some 182) rfl 25 _ rfl b4 ((o4 + j * 6) + 4) (by kernel_rfl) (.int .u16 ((At j : Nat) : Int)) (fun _ => by kernel_rfl) (fun w M => M.oldc (h4 j (by omega)) (by simp)) ?_
            refine hl_val (M.drop (.cons_cons _ (.cons_cons _ (.cons_cons _ (.cons_cons _ (List.nil_sublist _)))))) 16 rfl (by decide) (by kernel_rfl) (by kernel_rfl) (want_no rfl) (some 183) rfl (.int .i64 ((At j : Nat) : Int)) (fun w _ => (fun w => Eq.trans (b := .ok (.value (.int .i64 (cv .i64 ((At j : Nat) : Int)))) w) (by kernel_rfl) (by have := hA j hj; rw [cv_i64 (by omega) (by omega)])) w) ?_
            refine qV (M.drop (.cons_cons _ (.cons_cons _ (.cons_cons _ (.cons_cons _ (List.nil_sublist _)))))) 17 184 (.slice (some ⟨g5, 0, none⟩) cc.size cp8) ?_
            refine qV (M.drop (.cons_cons _ (.cons_cons _ (.cons_cons _ (.cons_cons _ (List.nil_sublist _)))))) 18 185 (.int .i64 ((cc.size : Nat) : Int)) ?_
            refine hl_val (M.drop (.cons_cons _ (.cons_cons _ (.cons_cons _ (.cons_cons _ (List.nil_sublist _)))))) 19 rfl (by decide) (by kernel_rfl) (by kernel_rfl) (want_no rfl) (some 186) rfl (.int .i64 (kk : Int)) (fun w _ => (fun w => Eq.trans (run_remN 3 3 _ _ rfl (At j) cc.size (by kernel_rfl) (by kernel_rfl) (by omega) w) (by rw [hkk])) w) ?_
            refine hl_val (M.drop (.cons_cons _ (.cons_cons _ (.cons_cons _ (.cons_cons _ (List.nil_sublist _)))))) 20 rfl (by decide) (by kernel_rfl) (by kernel_rfl) (want_no rfl) (some 187) rfl (.pointer (some ⟨g5, kk, none⟩)) (fun w _ => (run_ix0 44 5 Tryz.underlying44 inz5 _ _ rfl g5 cc.size cp8 (by kernel_rfl) .i64 kk (by kernel_rfl) hK) w) ?_
            refine hl_cell (M.drop (.cons_cons _ (.cons_cons _ (.cons_cons _ (.cons_cons _ (List.nil_sublist _)))))) 21 rfl (by decide) (by kernel_rfl) (by kernel_rfl) (want_no rfl) (some 188) rfl 5 _ rfl g5 kk (by kernel_rfl) (.int .u8 (bt cc kk)) (fun _ => by kernel_rfl) (fun w M => hZ8.cell (M.get 0 rfl) (vs8_sb _ _ hK)) ?_
            refine qV (M.drop (.cons_cons _ (.cons_cons _ (.cons_cons _ (.cons_cons _ (List.nil_sublist _)))))) 22 189 (.slice l4 n4 k4) ?_
            refine qV (M.drop (.cons_cons _ (.cons_cons _ (.cons_cons _ (.cons_cons _ (List.nil_sublist _)))))) 23 190 (.int .i64 (j : Int)) ?_
            refine hl_val (M.drop (.cons_cons _ (.cons_cons _ (.cons_cons _ (.cons_cons _ (List.nil_sublist _)))))) 24 rfl (by decide) (by kernel_rfl) (by kernel_rfl) (want_no rfl) (some 191) rfl (.pointer (some ⟨b4, (o4 + j * 6), none⟩)) (fun w _ => (run_ixK 24 27 6 Tryz.underlying24 inz27 _ _ rfl l4 b4 o4 n4 k4 (by kernel_rfl) (hl1 (by omega)) .i64 j (by kernel_rfl) (by omega)) w) ?_
            refine qV (M.drop (.cons_cons _ (.cons_cons _ (.cons_cons _ (.cons_cons _ (List.nil_sublist _)))))) 25 192 (.pointer (some ⟨b4, ((o4 + j * 6) + 5), none⟩)) ?_
            refine hl_cell (M.drop (.cons_cons _ (.cons_cons _ (.cons_cons _ (.cons_cons _ (List.nil_sublist _)))))) 26 rfl (by decide) (by kernel_rfl) (by kernel_rfl) (want_no rfl) (some 193) rfl 5 _ rfl b4 ((o4 + j * 6) + 5) (by kernel_rfl) (.int .u8 ((Tn j : Nat) : Int)) (fun _ => by kernel_rfl) (fun w M => M.oldc (h5 j (by omega)) (by simp)) ?_
            refine qV (M.drop (.cons_cons _ (.cons_cons _ (.cons_cons _ (.cons_cons _ (List.nil_sublist _)))))) 27 194 (.int .u8 (xb (bt cc kk) ((Tn j : Nat) : Int))) ?_
            refine hl_val (M.drop (.cons_cons _ (.cons_cons _ (.cons_cons _ (.cons_cons _ (List.nil_sublist _)))))) 28 rfl (by decide) (by kernel_rfl) (by kernel_rfl) (want_no rfl) (some 195) rfl (.pointer (some ⟨g5, kk, none⟩)) (fun w _ => (run_ix0 44 5 Tryz.underlying44 inz5 _ _ rfl g5 cc.size cp8 (by kernel_rfl) .i64 kk (by kernel_rfl) hK) w) ?_
            refine hl_end (by kernel_rfl) (by kernel_rfl) rfl ?_
            refine pl_putS M (want_no rfl) rfl 5 _ _ rfl 0 g5 kk (by kernel_rfl) _ rfl cp8 _ hZ8 (by rw [vs8_length, sb_length]; exact hK) (.int .u8 (xb (bt cc kk) ((Tn j : Nat) : Int))) (by kernel_rfl) inz5 rfl rfl ?_
            intro ZA u13 hZA M
            rw [vs8_set] at hZA
            replace M : Mem ⟨w, []⟩ (⟨g5, ZA⟩ :: ⟨g4, .cells (av 4 (ls [.int .u64 (r : Int), .string cc, .string (Xa r), .int .i64 (cn qb r)])) 43⟩ :: ⟨g3, .cells (av 2 (ls [.slice (some ⟨g9, 0, none⟩) na cap9, sv1])) 38⟩ :: ⟨g2, .cells (av 2 (ls [.pointer (some ⟨pa, 0, none⟩), .pointer (some ⟨pb, 0, none⟩)])) 30⟩ :: (Tb ++ (Ta ++ ([⟨g9, Z9⟩] ++ T1)))) u13 := M
            refine nT ?_
            by_cases c9 : ((Tn j : Nat) : Int) = 0
            ·by_cases c10 : r ∈ qb
             ·have hm := my_old hqb (show na ≤ 64 by omega) c10
              have hcn : cn qb r = 1 := cn_in c10
              rw [hcn] at hat M
              have hb0 := tuB_0 cc _ hK
              refine au_then <| wp_seq ?_
              refine rg_held M [⟨g5, ZA⟩, ⟨g4, .cells (av 4 (ls [.int .u64 (r : Int), .string cc, .string (Xa r), .int .i64 1])) 43⟩, ⟨g3, .cells (av 2 (ls [.slice (some ⟨g9, 0, none⟩) na cap9, sv1])) 38⟩, ⟨g2, .cells (av 2 (ls [.pointer (some ⟨pa, 0, none⟩), .pointer (some ⟨pb, 0, none⟩)])) 30⟩] 12 rfl (by kernel_rfl) (by kernel_rfl) (fun _ _ d _ _ h => by cases d <;> exact h) fun u14 M => ?_
              replace M : Mem ⟨w, []⟩ (⟨g5, ZA⟩ :: ⟨g4, .cells (av 4 (ls [.int .u64 (r : Int), .string cc, .string (Xa r), .int .i64 1])) 43⟩ :: ⟨g3, .cells (av 2 (ls [.slice (some ⟨g9, 0, none⟩) na cap9, sv1])) 38⟩ :: ⟨g2, .cells (av 2 (ls [.pointer (some ⟨pa, 0, none⟩), .pointer (some ⟨pb, 0, none⟩)])) 30⟩ :: (Tb ++ (Ta ++ ([⟨g9, Z9⟩] ++ T1)))) u14 := M
              refine qV (M.drop (.cons_cons _ (.cons_cons _ (.cons_cons _ (.cons_cons _ (List.nil_sublist _)))))) 0 197 (.int .i64 1) ?_
              refine qV (M.drop (.cons_cons _ (.cons_cons _ (.cons_cons _ (.cons_cons _ (List.nil_sublist _)))))) 1 198 (.pointer (some ⟨g2, 1, none⟩)) ?_
              refine hl_cell (M.drop (.cons_cons _ (.cons_cons _ (.cons_cons _ (.cons_cons _ (List.nil_sublist _)))))) 2 rfl (by decide) (by kernel_rfl) (by kernel_rfl) (want_no rfl) (some 199) rfl 29 _ rfl g2 1 (by kernel_rfl) (.pointer (some ⟨pb, 0, none⟩)) (fun _ => by kernel_rfl) (fun w M => M.cell 3 rfl (by decide) rfl) ?_
              refine qV (M.drop (.cons_cons _ (.cons_cons _ (.cons_cons _ (.cons_cons _ (List.nil_sublist _)))))) 3 200 (.pointer (some ⟨g4, 0, none⟩)) ?_
              refine hl_cell (M.drop (.cons_cons _ (.cons_cons _ (.cons_cons _ (.cons_cons _ (List.nil_sublist _)))))) 4 rfl (by decide) (by kernel_rfl) (by kernel_rfl) (want_no rfl) (some 201) rfl 33 _ rfl g4 0 (by kernel_rfl) (.int .u64 (r : Int)) (fun _ => by kernel_rfl) (fun w M => M.cell 1 rfl (by decide) rfl) ?_
              refine qV (M.drop (.cons_cons _ (.cons_cons _ (.cons_cons _ (.cons_cons _ (List.nil_sublist _)))))) 5 202 (.slice (some ⟨g5, 0, none⟩) cc.size cp8) ?_
              refine hl_one 6 (by decide) (by kernel_rfl) rfl ?_
              refine pl_back M (want_no rfl) (some 203) rfl _ rfl 0 g5 cc.size cp8 (by kernel_rfl) _ rfl ((sb cc).set kk (xb (bt cc kk) ((Tn j : Nat) : Int))) cp8 hZA (by rw [List.length_set, sb_length]) (fun y hy => by rw [← tuB_sb] at hy; exact sb_nn _ y hy) ?_
              refine nT ?_
              refine ⟨(M.drop (.cons_cons _ (.cons_cons _ (.cons_cons _ (.cons_cons _ (List.nil_sublist _)))))), ?_⟩
              refine hl_one 7 (by decide) (by kernel_rfl) rfl ?_
              refine pl_callM M (want_no rfl) (some 204) rfl 10 #[.pointer (some ⟨pb, 0, none⟩), .int .u64 0, .int .u64 (r : Int), .string (tuB cc kk ((Tn j : Nat) : Int))] [⟨g5, ZA⟩, ⟨g4, .cells (av 4 (ls [.int .u64 (r : Int), .string cc, .string (Xa r), .int .i64 1])) 43⟩, ⟨g3, .cells (av 2 (ls [.slice (some ⟨g9, 0, none⟩) na cap9, sv1])) 38⟩, ⟨g2, .cells (av 2 (ls [.pointer (some ⟨pa, 0, none⟩), .pointer (some ⟨pb, 0, none⟩)])) 30⟩] (Tb) ((Ta ++ ([⟨g9, Z9⟩] ++ T1))) (by simp only [List.append_assoc, List.cons_append, List.nil_append, List.append_nil]) (fun T0 => .tuple #[.string ⟨#[]⟩, .int .i64 9]) (fun T0 => T0) (fun T0 => IsT pb (tsB KA KB nb sub qb) T0) (fun _ => by kernel_rfl) (fun w hL hT => by rw [c9, hb0, ← hcc]; rw [← hm]; exact o_no Hb (okS (by omega)) (by decide) (by omega) hKB (show (0 : Nat) - 0 < 20 by decide) (show r < 50 by omega) (by rw [hm]; decide) w hL hT) ?_
              rintro Y2 u15 J2 M
              replace M : Mem ⟨w, []⟩ (⟨g5, ZA⟩ :: ⟨g4, .cells (av 4 (ls [.int .u64 (r : Int), .string cc, .string (Xa r), .int .i64 1])) 43⟩ :: ⟨g3, .cells (av 2 (ls [.slice (some ⟨g9, 0, none⟩) na cap9, sv1])) 38⟩ :: ⟨g2, .cells (av 2 (ls [.pointer (some ⟨pa, 0, none⟩), .pointer (some ⟨pb, 0, none⟩)])) 30⟩ :: (Y2 ++ (Ta ++ ([⟨g9, Z9⟩] ++ T1)))) u15 := by simpa only [List.append_assoc, List.cons_append, List.nil_append, List.append_nil] using M
              refine nT ?_
              refine ⟨(M.drop (.cons_cons _ (.cons_cons _ (.cons_cons _ (.cons_cons _ (List.nil_sublist _)))))), ?_⟩
              refine qV (M.drop (.cons_cons _ (.cons_cons _ (.cons_cons _ (.cons_cons _ (List.nil_sublist _)))))) 8 196 (.tuple #[.string ⟨#[]⟩, .int .i64 9]) ?_
              refine qV (M.drop (.cons_cons _ (.cons_cons _ (.cons_cons _ (.cons_cons _ (List.nil_sublist _)))))) 9 205 (.string ⟨#[]⟩) ?_
              refine qV (M.drop (.cons_cons _ (.cons_cons _ (.cons_cons _ (.cons_cons _ (List.nil_sublist _)))))) 10 206 (.int .i64 9) ?_
              refine qV (M.drop (.cons_cons _ (.cons_cons _ (.cons_cons _ (.cons_cons _ (List.nil_sublist _)))))) 11 20 (.string ⟨#[]⟩) ?_
              refine hl_end (by kernel_rfl) (by kernel_rfl) rfl ?_
              refine rV 1 <| nT <| au_then <| wp_seq <| sR ?_
              refine rV 2 ?_
              refine pH 209 (.pointer (some ⟨b4, (o4 + j * 6), none⟩)) (run_ixK 24 27 6 Tryz.underlying24 inz27 _ _ rfl l4 b4 o4 n4 k4 (by kernel_rfl) (hl1 (by omega)) .i64 j (by kernel_rfl) (by omega)) ?_
              refine rV 1 ?_
              refine pE M 211 b4 ((o4 + j * 6) + 5) (.int .u8 ((Tn j : Nat) : Int)) (fun w M => M.oldc (h5 j (by omega)) (by simp)) ?_
              refine pH 212 (.bool false) (jD (((Tn j : Nat) : Int) = 0) (c9)) ?_
              refine nT <| cF <| wp_skip <| au_then <| wp_seq ?_
              refine sR <| rV 3 <| ZE M 219 1 3 <| rV 12 <| nT ?_
              refine cF <| wp_skip <| au_then <| sq <| cF ?_
              refine wp_skip ?_
              refine au_block ?_
              refine au_then ?_
              refine rg_lit ?_
              refine rV 1 ?_
              refine pH 94 (.int .i64 ((j + 1 : Nat) : Int)) (fun w => Eq.trans (b := .ok (.value (.int .i64 (IntKind.wrap .i64 ((j : Int) + 1)))) w) (by kernel_rfl) (by rw [wrap64 (by omega) (by omega)]; rfl)) ?_
              refine rV 1 <| nT ?_
              exact ⟨fun k_ => ([v2 4, undef, undef, undef, undef, undef, undef, undef, .int .i64 1, v2 13, v2 14, v2 15, .slice (some ⟨g9, 0, none⟩) na cap9, .int .i64 (r : Int), .pointer (some ⟨g4, 0, none⟩), .slice (some ⟨g5, 0, none⟩) cc.size cp8, .string ⟨#[]⟩, .int .i64 9, undef, undef, undef, undef, undef, undef, undef, undef, undef, undef, undef, undef, undef, undef, undef, undef, undef, undef, undef, undef, undef, undef, undef, undef, undef, undef, undef, undef, undef, undef, undef, undef, undef, undef, undef, undef, undef, undef, undef, undef, undef, undef, undef, undef, undef, undef, undef, undef, undef, undef, undef, undef, undef, undef, undef, undef, undef, undef, undef, undef, undef, undef, undef, undef, undef, undef, undef, .int .i64 (j : Int), .slice l4 n4 k4, .int .i64 (n4 : Int), .bool true, .int .i64 (j : Int), .int .i64 ((j + 1 : Nat) : Int), .slice l4 n4 k4, .int .i64 (j : Int), .pointer (some ⟨b4, (o4 + j * 6), none⟩), .pointer (some ⟨b4, ((o4 + j * 6) + 0), none⟩), .bool true, .slice l4 n4 k4, .int .i64 (j : Int), .pointer (some ⟨b4, (o4 + j * 6), none⟩), .pointer (some ⟨b4, ((o4 + j * 6) + 1), none⟩), .bool ((Cf j)), .bool false, v2 106, v2 107, v2 108, v2 109, v2 110, v2 111, v2 112, v2 113, v2 114, v2 115, v2 116, v2 117, v2 118, v2 119, v2 120, v2 121, v2 122, v2 123, v2 124, v2 125, v2 126, v2 127, v2 128, v2 129, v2 130, v2 131, v2 132, v2 133, v2 134, v2 135, v2 136, v2 137, v2 138, v2 139, v2 140, v2 141, v2 142, v2 143, .int .i64 1, .int .i64 0, .pointer (some ⟨g3, 0, none⟩), .slice (some ⟨g9, 0, none⟩) na cap9, .slice (some ⟨g9, 0, none⟩) na cap9, .int .i64 ((na : Nat) : Int), .bool false, .slice l4 n4 k4, .int .i64 (j : Int), .pointer (some ⟨b4, (o4 + j * 6), none⟩), .pointer (some ⟨b4, ((o4 + j * 6) + 3), none⟩), .int .u8 ((Wh j : Nat) : Int), .int .i64 ((Wh j : Nat) : Int), .slice (some ⟨g9, 0, none⟩) na cap9, .int .i64 ((na : Nat) : Int), .int .i64 (r : Int), .slice (some ⟨g9, 0, none⟩) na cap9, .int .i64 (r : Int), .pointer (some ⟨g9, (0 + r * 4), none⟩), .agg (av 4 (ls [.int .u64 (r : Int), .string cc, .string (Xa r), .int .i64 (cn qb r)])), .pointer (some ⟨g4, 1, none⟩), .string cc, .slice (some ⟨g5, 0, none⟩) cc.size cp8, .slice (some ⟨g5, 0, none⟩) cc.size cp8, .slice l4 n4 k4, .int .i64 (j : Int), .pointer (some ⟨b4, (o4 + j * 6), none⟩), .pointer (some ⟨b4, ((o4 + j * 6) + 4), none⟩), .int .u16 ((At j : Nat) : Int), .int .i64 ((At j : Nat) : Int), .slice (some ⟨g5, 0, none⟩) cc.size cp8, .int .i64 ((cc.size : Nat) : Int), .int .i64 (kk : Int), .slice (some ⟨g5, 0, none⟩) cc.size cp8, .slice l4 n4 k4, .int .i64 (j : Int), .pointer (some ⟨b4, (o4 + j * 6), none⟩), .pointer (some ⟨b4, ((o4 + j * 6) + 4), none⟩), .int .u16 ((At j : Nat) : Int), .int .i64 ((At j : Nat) : Int), .slice (some ⟨g5, 0, none⟩) cc.size cp8, .int .i64 ((cc.size : Nat) : Int), .int .i64 (kk : Int), .pointer (some ⟨g5, kk, none⟩), .int .u8 (bt cc kk), .slice l4 n4 k4, .int .i64 (j : Int), .pointer (some ⟨b4, (o4 + j * 6), none⟩), .pointer (some ⟨b4, ((o4 + j * 6) + 5), none⟩), .int .u8 ((Tn j : Nat) : Int), .int .u8 (xb (bt cc kk) ((Tn j : Nat) : Int)), .pointer (some ⟨g5, kk, none⟩), .tuple #[.string ⟨#[]⟩, .int .i64 9], .int .i64 1, .pointer (some ⟨g2, 1, none⟩), .pointer (some ⟨pb, 0, none⟩), .pointer (some ⟨g4, 0, none⟩), .int .u64 (r : Int), .slice (some ⟨g5, 0, none⟩) cc.size cp8, .string (tuB cc kk ((Tn j : Nat) : Int)), .tuple #[.string ⟨#[]⟩, .int .i64 9], .string ⟨#[]⟩, .int .i64 9, .slice l4 n4 k4, .int .i64 (j : Int), .pointer (some ⟨b4, (o4 + j * 6), none⟩), .pointer (some ⟨b4, ((o4 + j * 6) + 5), none⟩), .int .u8 ((Tn j : Nat) : Int), .bool false, v2 213, v2 214, v2 215, .int .i64 9, .bool false, .pointer (some ⟨g4, 3, none⟩), .int .i64 1, .bool false, .bool false, .bool false, .int .i64 9, .bool false, .bool false, undef, undef, undef, undef, .bool false, .bool false, .int .i64 9, .bool false, v2 234, v2 235, v2 236, v2 237, v2 238, v2 239, v2 240, v2 241, v2 242, v2 243, v2 244] : List Value).getD (k_ - 4) undef, na, nb, Xa, Xb, qa, qb, sub, _, sv1, Ta, Y2, [⟨g9, Z9⟩], T1, by kernel_rfl, (M.drop (.cons _ (.cons _ (.cons_cons _ (.cons_cons _ (List.Sublist.refl _)))))), Ha, J2, hSk, hs1, by omega, by omega, hqa, hqb, hXa, hXb⟩
             ·have hm := my_new hqb (show na ≤ 64 by omega) c10
              have hcn : cn qb r = 0 := cn_out c10
              rw [hcn] at hat M
              have hb0 := tuB_0 cc _ hK
              refine au_then <| wp_seq ?_
              refine rg_held M [⟨g5, ZA⟩, ⟨g4, .cells (av 4 (ls [.int .u64 (r : Int), .string cc, .string (Xa r), .int .i64 0])) 43⟩, ⟨g3, .cells (av 2 (ls [.slice (some ⟨g9, 0, none⟩) na cap9, sv1])) 38⟩, ⟨g2, .cells (av 2 (ls [.pointer (some ⟨pa, 0, none⟩), .pointer (some ⟨pb, 0, none⟩)])) 30⟩] 12 rfl (by kernel_rfl) (by kernel_rfl) (fun _ _ d _ _ h => by cases d <;> exact h) fun u14 M => ?_
              replace M : Mem ⟨w, []⟩ (⟨g5, ZA⟩ :: ⟨g4, .cells (av 4 (ls [.int .u64 (r : Int), .string cc, .string (Xa r), .int .i64 0])) 43⟩ :: ⟨g3, .cells (av 2 (ls [.slice (some ⟨g9, 0, none⟩) na cap9, sv1])) 38⟩ :: ⟨g2, .cells (av 2 (ls [.pointer (some ⟨pa, 0, none⟩), .pointer (some ⟨pb, 0, none⟩)])) 30⟩ :: (Tb ++ (Ta ++ ([⟨g9, Z9⟩] ++ T1)))) u14 := M
              refine qV (M.drop (.cons_cons _ (.cons_cons _ (.cons_cons _ (.cons_cons _ (List.nil_sublist _)))))) 0 197 (.int .i64 1) ?_
              refine qV (M.drop (.cons_cons _ (.cons_cons _ (.cons_cons _ (.cons_cons _ (List.nil_sublist _)))))) 1 198 (.pointer (some ⟨g2, 1, none⟩)) ?_
              refine hl_cell (M.drop (.cons_cons _ (.cons_cons _ (.cons_cons _ (.cons_cons _ (List.nil_sublist _)))))) 2 rfl (by decide) (by kernel_rfl) (by kernel_rfl) (want_no rfl) (some 199) rfl 29 _ rfl g2 1 (by kernel_rfl) (.pointer (some ⟨pb, 0, none⟩)) (fun _ => by kernel_rfl) (fun w M => M.cell 3 rfl (by decide) rfl) ?_
              refine qV (M.drop (.cons_cons _ (.cons_cons _ (.cons_cons _ (.cons_cons _ (List.nil_sublist _)))))) 3 200 (.pointer (some ⟨g4, 0, none⟩)) ?_
              refine hl_cell (M.drop (.cons_cons _ (.cons_cons _ (.cons_cons _ (.cons_cons _ (List.nil_sublist _)))))) 4 rfl (by decide) (by kernel_rfl) (by kernel_rfl) (want_no rfl) (some 201) rfl 33 _ rfl g4 0 (by kernel_rfl) (.int .u64 (r : Int)) (fun _ => by kernel_rfl) (fun w M => M.cell 1 rfl (by decide) rfl) ?_
              refine qV (M.drop (.cons_cons _ (.cons_cons _ (.cons_cons _ (.cons_cons _ (List.nil_sublist _)))))) 5 202 (.slice (some ⟨g5, 0, none⟩) cc.size cp8) ?_
              refine hl_one 6 (by decide) (by kernel_rfl) rfl ?_
              refine pl_back M (want_no rfl) (some 203) rfl _ rfl 0 g5 cc.size cp8 (by kernel_rfl) _ rfl ((sb cc).set kk (xb (bt cc kk) ((Tn j : Nat) : Int))) cp8 hZA (by rw [List.length_set, sb_length]) (fun y hy => by rw [← tuB_sb] at hy; exact sb_nn _ y hy) ?_
              refine nT ?_
              refine ⟨(M.drop (.cons_cons _ (.cons_cons _ (.cons_cons _ (.cons_cons _ (List.nil_sublist _)))))), ?_⟩
              refine hl_one 7 (by decide) (by kernel_rfl) rfl ?_
              refine pl_callM M (want_no rfl) (some 204) rfl 10 #[.pointer (some ⟨pb, 0, none⟩), .int .u64 0, .int .u64 (r : Int), .string (tuB cc kk ((Tn j : Nat) : Int))] [⟨g5, ZA⟩, ⟨g4, .cells (av 4 (ls [.int .u64 (r : Int), .string cc, .string (Xa r), .int .i64 0])) 43⟩, ⟨g3, .cells (av 2 (ls [.slice (some ⟨g9, 0, none⟩) na cap9, sv1])) 38⟩, ⟨g2, .cells (av 2 (ls [.pointer (some ⟨pa, 0, none⟩), .pointer (some ⟨pb, 0, none⟩)])) 30⟩] (Tb) ((Ta ++ ([⟨g9, Z9⟩] ++ T1))) (by simp only [List.append_assoc, List.cons_append, List.nil_append, List.append_nil]) (fun T0 => .tuple #[.string (Xa r), .int .i64 0]) (fun T0 => T0) (fun T0 => IsT pb (tsB KA KB nb true (qb ++ [r])) T0) (fun _ => by kernel_rfl) (fun w hL hT => by rw [c9, hb0, ← hcc]; exact o_ok Hb (okS (by omega)) (by decide) (by omega) hKB hKA (show (0 : Nat) - 0 < 20 by decide) (show r < 50 by omega) hm (by omega) w hL hT) ?_
              rintro Y2 u15 J2 M
              replace M : Mem ⟨w, []⟩ (⟨g5, ZA⟩ :: ⟨g4, .cells (av 4 (ls [.int .u64 (r : Int), .string cc, .string (Xa r), .int .i64 0])) 43⟩ :: ⟨g3, .cells (av 2 (ls [.slice (some ⟨g9, 0, none⟩) na cap9, sv1])) 38⟩ :: ⟨g2, .cells (av 2 (ls [.pointer (some ⟨pa, 0, none⟩), .pointer (some ⟨pb, 0, none⟩)])) 30⟩ :: (Y2 ++ (Ta ++ ([⟨g9, Z9⟩] ++ T1)))) u15 := by simpa only [List.append_assoc, List.cons_append, List.nil_append, List.append_nil] using M
              refine nT ?_
              refine ⟨(M.drop (.cons_cons _ (.cons_cons _ (.cons_cons _ (.cons_cons _ (List.nil_sublist _)))))), ?_⟩
              refine qV (M.drop (.cons_cons _ (.cons_cons _ (.cons_cons _ (.cons_cons _ (List.nil_sublist _)))))) 8 196 (.tuple #[.string (Xa r), .int .i64 0]) ?_
              refine qV (M.drop (.cons_cons _ (.cons_cons _ (.cons_cons _ (.cons_cons _ (List.nil_sublist _)))))) 9 205 (.string (Xa r)) ?_
              refine qV (M.drop (.cons_cons _ (.cons_cons _ (.cons_cons _ (.cons_cons _ (List.nil_sublist _)))))) 10 206 (.int .i64 0) ?_
              refine qV (M.drop (.cons_cons _ (.cons_cons _ (.cons_cons _ (.cons_cons _ (List.nil_sublist _)))))) 11 20 (.string (Xa r)) ?_
              refine hl_end (by kernel_rfl) (by kernel_rfl) rfl ?_
              refine rV 1 <| nT <| au_then <| wp_seq <| sR ?_
              refine rV 2 ?_
              refine pH 209 (.pointer (some ⟨b4, (o4 + j * 6), none⟩)) (run_ixK 24 27 6 Tryz.underlying24 inz27 _ _ rfl l4 b4 o4 n4 k4 (by kernel_rfl) (hl1 (by omega)) .i64 j (by kernel_rfl) (by omega)) ?_
              refine rV 1 ?_
              refine pE M 211 b4 ((o4 + j * 6) + 5) (.int .u8 ((Tn j : Nat) : Int)) (fun w M => M.oldc (h5 j (by omega)) (by simp)) ?_
              refine pH 212 (.bool false) (jD (((Tn j : Nat) : Int) = 0) (c9)) ?_
              refine nT <| cF <| wp_skip <| au_then <| wp_seq ?_
              refine sR <| rV 3 <| ZE M 219 1 3 <| rV 8 ?_
              refine pl_cell M (want_on 9 true rfl 225 rfl (by kernel_rfl)) (some 228) rfl 9 _ rfl g4 2 (by kernel_rfl) (.string (Xa r)) (fun _ => by kernel_rfl) (fun w M => M.cell 1 rfl (by decide) rfl) ?_
              refine pl_val (want_on 9 true rfl 225 rfl (by kernel_rfl)) (some 229) rfl (.bool false) (fun w => Eq.trans (b := .ok (.value (.bool (!((Xa r).toList == (Xa r).toList)))) w) (by kernel_rfl) (by rw [beq_self_eq_true]; rfl)) ?_
              refine rV 2 <| nT <| cF <| wp_skip <| au_then ?_
              refine sR <| rV 2 ?_
              refine pl_nil ?_
              replace M := M.fetch (pre := (⟨g5, ZA⟩ :: ⟨g4, .cells (av 4 (ls [.int .u64 (r : Int), .string cc, .string (Xa r), .int .i64 0])) 43⟩ :: ⟨g3, .cells (av 2 (ls [.slice (some ⟨g9, 0, none⟩) na cap9, sv1])) 38⟩ :: ⟨g2, .cells (av 2 (ls [.pointer (some ⟨pa, 0, none⟩), .pointer (some ⟨pb, 0, none⟩)])) 30⟩ :: (Y2 ++ Ta))) (b := ⟨g9, Z9⟩) (suf := T1) (by simp only [List.append_assoc, List.cons_append, List.nil_append, List.append_nil])
              replace M : Mem ⟨w, []⟩ (⟨g9, Z9⟩ :: ⟨g5, ZA⟩ :: ⟨g4, .cells (av 4 (ls [.int .u64 (r : Int), .string cc, .string (Xa r), .int .i64 0])) 43⟩ :: ⟨g3, .cells (av 2 (ls [.slice (some ⟨g9, 0, none⟩) na cap9, sv1])) 38⟩ :: ⟨g2, .cells (av 2 (ls [.pointer (some ⟨pa, 0, none⟩), .pointer (some ⟨pb, 0, none⟩)])) 30⟩ :: (Y2 ++ (Ta ++ T1))) u15 := by simpa only [List.append_assoc, List.cons_append, List.nil_append, List.append_nil] using M
              refine au_then <| cT ?_
              refine rg_lit ?_
              refine rV 3 <| ZE M 237 3 0 <| rV 1 ?_
              refine pH 239 (.pointer (some ⟨g9, (0 + r * 4), none⟩)) (run_ixK 37 43 4 Tryz.underlying37 inz43 _ _ rfl (some ⟨g9, 0, none⟩) g9 0 na cap9 (by kernel_rfl) rfl .i64 r (by kernel_rfl) hr) ?_
              refine rV 1 ?_
              refine pE M 241 g9 ((0 + r * 4) + 3) (.int .i64 0) (fun w M => hZ9.cell (M.get 0 rfl) (by rw [show 0 + r * 4 + 3 = r * 4 + 3 by omega]; exact hat.2.2.2)) ?_
              refine rV 1 ?_
              refine pH 243 (.pointer (some ⟨g9, (0 + r * 4), none⟩)) (run_ixK 37 43 4 Tryz.underlying37 inz43 _ _ rfl (some ⟨g9, 0, none⟩) g9 0 na cap9 (by kernel_rfl) rfl .i64 r (by kernel_rfl) hr) ?_
              refine rV 1 ?_
              refine pl_putS M (want_no rfl) rfl 3 _ _ rfl 0 g9 (0 + r * 4 + 3) (by kernel_rfl) _ rfl (cap9 * 4) _ hZ9 (by rw [sL_len]; omega) (.int .i64 1) (by kernel_rfl) inz3 rfl rfl ?_
              intro ZB u16 hZB M
              rw [show 0 + r * 4 + 3 = r * 4 + 3 by omega, sL_hear hr] at hZB
              replace M : Mem ⟨w, []⟩ (⟨g9, ZB⟩ :: ⟨g5, ZA⟩ :: ⟨g4, .cells (av 4 (ls [.int .u64 (r : Int), .string cc, .string (Xa r), .int .i64 0])) 43⟩ :: ⟨g3, .cells (av 2 (ls [.slice (some ⟨g9, 0, none⟩) na cap9, sv1])) 38⟩ :: ⟨g2, .cells (av 2 (ls [.pointer (some ⟨pa, 0, none⟩), .pointer (some ⟨pb, 0, none⟩)])) 30⟩ :: (Y2 ++ (Ta ++ T1))) u16 := M
              refine pl_nil ?_
              replace M : Mem ⟨w, []⟩ (⟨g5, ZA⟩ :: ⟨g4, .cells (av 4 (ls [.int .u64 (r : Int), .string cc, .string (Xa r), .int .i64 0])) 43⟩ :: ⟨g3, .cells (av 2 (ls [.slice (some ⟨g9, 0, none⟩) na cap9, sv1])) 38⟩ :: ⟨g2, .cells (av 2 (ls [.pointer (some ⟨pa, 0, none⟩), .pointer (some ⟨pb, 0, none⟩)])) 30⟩ :: (Y2 ++ (Ta ++ ([⟨g9, ZB⟩] ++ T1)))) u16 := by simpa only [List.append_assoc, List.cons_append, List.nil_append, List.append_nil] using Mem.unfetch (pre := (⟨g5, ZA⟩ :: ⟨g4, .cells (av 4 (ls [.int .u64 (r : Int), .string cc, .string (Xa r), .int .i64 0])) 43⟩ :: ⟨g3, .cells (av 2 (ls [.slice (some ⟨g9, 0, none⟩) na cap9, sv1])) 38⟩ :: ⟨g2, .cells (av 2 (ls [.pointer (some ⟨pa, 0, none⟩), .pointer (some ⟨pb, 0, none⟩)])) 30⟩ :: (Y2 ++ Ta))) (b := ⟨g9, ZB⟩) (suf := T1) (by simpa only [List.append_assoc, List.cons_append, List.nil_append, List.append_nil] using M)
              refine au_block ?_
              refine au_then ?_
              refine rg_lit ?_
              refine rV 1 ?_
              refine pH 94 (.int .i64 ((j + 1 : Nat) : Int)) (fun w => Eq.trans (b := .ok (.value (.int .i64 (IntKind.wrap .i64 ((j : Int) + 1)))) w) (by kernel_rfl) (by rw [wrap64 (by omega) (by omega)]; rfl)) ?_
              refine rV 1 <| nT ?_
              exact ⟨fun k_ => ([v2 4, undef, undef, undef, undef, undef, undef, undef, .int .i64 1, v2 13, v2 14, v2 15, .slice (some ⟨g9, 0, none⟩) na cap9, .int .i64 (r : Int), .pointer (some ⟨g4, 0, none⟩), .slice (some ⟨g5, 0, none⟩) cc.size cp8, .string (Xa r), .int .i64 0, undef, undef, undef, undef, undef, undef, undef, undef, undef, undef, undef, undef, undef, undef, undef, undef, undef, undef, undef, undef, undef, undef, undef, undef, undef, undef, undef, undef, undef, undef, undef, undef, undef, undef, undef, undef, undef, undef, undef, undef, undef, undef, undef, undef, undef, undef, undef, undef, undef, undef, undef, undef, undef, undef, undef, undef, undef, undef, undef, undef, undef, undef, undef, undef, undef, undef, undef, .int .i64 (j : Int), .slice l4 n4 k4, .int .i64 (n4 : Int), .bool true, .int .i64 (j : Int), .int .i64 ((j + 1 : Nat) : Int), .slice l4 n4 k4, .int .i64 (j : Int), .pointer (some ⟨b4, (o4 + j * 6), none⟩), .pointer (some ⟨b4, ((o4 + j * 6) + 0), none⟩), .bool true, .slice l4 n4 k4, .int .i64 (j : Int), .pointer (some ⟨b4, (o4 + j * 6), none⟩), .pointer (some ⟨b4, ((o4 + j * 6) + 1), none⟩), .bool ((Cf j)), .bool false, v2 106, v2 107, v2 108, v2 109, v2 110, v2 111, v2 112, v2 113, v2 114, v2 115, v2 116, v2 117, v2 118, v2 119, v2 120, v2 121, v2 122, v2 123, v2 124, v2 125, v2 126, v2 127, v2 128, v2 129, v2 130, v2 131, v2 132, v2 133, v2 134, v2 135, v2 136, v2 137, v2 138, v2 139, v2 140, v2 141, v2 142, v2 143, .int .i64 1, .int .i64 0, .pointer (some ⟨g3, 0, none⟩), .slice (some ⟨g9, 0, none⟩) na cap9, .slice (some ⟨g9, 0, none⟩) na cap9, .int .i64 ((na : Nat) : Int), .bool false, .slice l4 n4 k4, .int .i64 (j : Int), .pointer (some ⟨b4, (o4 + j * 6), none⟩), .pointer (some ⟨b4, ((o4 + j * 6) + 3), none⟩), .int .u8 ((Wh j : Nat) : Int), .int .i64 ((Wh j : Nat) : Int), .slice (some ⟨g9, 0, none⟩) na cap9, .int .i64 ((na : Nat) : Int), .int .i64 (r : Int), .slice (some ⟨g9, 0, none⟩) na cap9, .int .i64 (r : Int), .pointer (some ⟨g9, (0 + r * 4), none⟩), .agg (av 4 (ls [.int .u64 (r : Int), .string cc, .string (Xa r), .int .i64 (cn qb r)])), .pointer (some ⟨g4, 1, none⟩), .string cc, .slice (some ⟨g5, 0, none⟩) cc.size cp8, .slice (some ⟨g5, 0, none⟩) cc.size cp8, .slice l4 n4 k4, .int .i64 (j : Int), .pointer (some ⟨b4, (o4 + j * 6), none⟩), .pointer (some ⟨b4, ((o4 + j * 6) + 4), none⟩), .int .u16 ((At j : Nat) : Int), .int .i64 ((At j : Nat) : Int), .slice (some ⟨g5, 0, none⟩) cc.size cp8, .int .i64 ((cc.size : Nat) : Int), .int .i64 (kk : Int), .slice (some ⟨g5, 0, none⟩) cc.size cp8, .slice l4 n4 k4, .int .i64 (j : Int), .pointer (some ⟨b4, (o4 + j * 6), none⟩), .pointer (some ⟨b4, ((o4 + j * 6) + 4), none⟩), .int .u16 ((At j : Nat) : Int), .int .i64 ((At j : Nat) : Int), .slice (some ⟨g5, 0, none⟩) cc.size cp8, .int .i64 ((cc.size : Nat) : Int), .int .i64 (kk : Int), .pointer (some ⟨g5, kk, none⟩), .int .u8 (bt cc kk), .slice l4 n4 k4, .int .i64 (j : Int), .pointer (some ⟨b4, (o4 + j * 6), none⟩), .pointer (some ⟨b4, ((o4 + j * 6) + 5), none⟩), .int .u8 ((Tn j : Nat) : Int), .int .u8 (xb (bt cc kk) ((Tn j : Nat) : Int)), .pointer (some ⟨g5, kk, none⟩), .tuple #[.string (Xa r), .int .i64 0], .int .i64 1, .pointer (some ⟨g2, 1, none⟩), .pointer (some ⟨pb, 0, none⟩), .pointer (some ⟨g4, 0, none⟩), .int .u64 (r : Int), .slice (some ⟨g5, 0, none⟩) cc.size cp8, .string (tuB cc kk ((Tn j : Nat) : Int)), .tuple #[.string (Xa r), .int .i64 0], .string (Xa r), .int .i64 0, .slice l4 n4 k4, .int .i64 (j : Int), .pointer (some ⟨b4, (o4 + j * 6), none⟩), .pointer (some ⟨b4, ((o4 + j * 6) + 5), none⟩), .int .u8 ((Tn j : Nat) : Int), .bool false, v2 213, v2 214, v2 215, .int .i64 0, .bool true, .pointer (some ⟨g4, 3, none⟩), .int .i64 0, .bool true, .bool false, .bool false, .int .i64 0, .bool true, .bool true, .string (Xa r), .pointer (some ⟨g4, 2, none⟩), .string (Xa r), .bool false, .bool false, .bool false, .int .i64 0, .bool true, .int .i64 1, .int .i64 0, .pointer (some ⟨g3, 0, none⟩), .slice (some ⟨g9, 0, none⟩) na cap9, .int .i64 (r : Int), .pointer (some ⟨g9, (0 + r * 4), none⟩), .pointer (some ⟨g9, ((0 + r * 4) + 3), none⟩), .int .i64 0, .int .i64 1, .pointer (some ⟨g9, (0 + r * 4), none⟩), .pointer (some ⟨g9, ((0 + r * 4) + 3), none⟩)] : List Value).getD (k_ - 4) undef, na, nb, Xa, Xb, qa, (qb ++ [r]), true, _, sv1, Ta, Y2, [⟨g9, ZB⟩], T1, by kernel_rfl, (M.drop (.cons _ (.cons _ (.cons_cons _ (.cons_cons _ (List.Sublist.refl _)))))), Ha, J2, ⟨by rw [sL_len], .inr ⟨g9, cap9, ZB, hn_g9, rfl, hle_g9, hZB, rfl⟩⟩, hs1, by omega, by omega, hqa, in_app hqb hr, hXa, hXb⟩
            ·refine au_then <| wp_seq ?_
             refine rg_held M [⟨g5, ZA⟩, ⟨g4, .cells (av 4 (ls [.int .u64 (r : Int), .string cc, .string (Xa r), .int .i64 (cn qb r)])) 43⟩, ⟨g3, .cells (av 2 (ls [.slice (some ⟨g9, 0, none⟩) na cap9, sv1])) 38⟩, ⟨g2, .cells (av 2 (ls [.pointer (some ⟨pa, 0, none⟩), .pointer (some ⟨pb, 0, none⟩)])) 30⟩] 12 rfl (by kernel_rfl) (by kernel_rfl) (fun _ _ d _ _ h => by cases d <;> exact h) fun u14 M => ?_
             replace M : Mem ⟨w, []⟩ (⟨g5, ZA⟩ :: ⟨g4, .cells (av 4 (ls [.int .u64 (r : Int), .string cc, .string (Xa r), .int .i64 (cn qb r)])) 43⟩ :: ⟨g3, .cells (av 2 (ls [.slice (some ⟨g9, 0, none⟩) na cap9, sv1])) 38⟩ :: ⟨g2, .cells (av 2 (ls [.pointer (some ⟨pa, 0, none⟩), .pointer (some ⟨pb, 0, none⟩)])) 30⟩ :: (Tb ++ (Ta ++ ([⟨g9, Z9⟩] ++ T1)))) u14 := M
             refine qV (M.drop (.cons_cons _ (.cons_cons _ (.cons_cons _ (.cons_cons _ (List.nil_sublist _)))))) 0 197 (.int .i64 1) ?_
             refine qV (M.drop (.cons_cons _ (.cons_cons _ (.cons_cons _ (.cons_cons _ (List.nil_sublist _)))))) 1 198 (.pointer (some ⟨g2, 1, none⟩)) ?_
             refine hl_cell (M.drop (.cons_cons _ (.cons_cons _ (.cons_cons _ (.cons_cons _ (List.nil_sublist _)))))) 2 rfl (by decide) (by kernel_rfl) (by kernel_rfl) (want_no rfl) (some 199) rfl 29 _ rfl g2 1 (by kernel_rfl) (.pointer (some ⟨pb, 0, none⟩)) (fun _ => by kernel_rfl) (fun w M => M.cell 3 rfl (by decide) rfl) ?_
             refine qV (M.drop (.cons_cons _ (.cons_cons _ (.cons_cons _ (.cons_cons _ (List.nil_sublist _)))))) 3 200 (.pointer (some ⟨g4, 0, none⟩)) ?_
             refine hl_cell (M.drop (.cons_cons _ (.cons_cons _ (.cons_cons _ (.cons_cons _ (List.nil_sublist _)))))) 4 rfl (by decide) (by kernel_rfl) (by kernel_rfl) (want_no rfl) (some 201) rfl 33 _ rfl g4 0 (by kernel_rfl) (.int .u64 (r : Int)) (fun _ => by kernel_rfl) (fun w M => M.cell 1 rfl (by decide) rfl) ?_
             refine qV (M.drop (.cons_cons _ (.cons_cons _ (.cons_cons _ (.cons_cons _ (List.nil_sublist _)))))) 5 202 (.slice (some ⟨g5, 0, none⟩) cc.size cp8) ?_
             refine hl_one 6 (by decide) (by kernel_rfl) rfl ?_
             refine pl_back M (want_no rfl) (some 203) rfl _ rfl 0 g5 cc.size cp8 (by kernel_rfl) _ rfl ((sb cc).set kk (xb (bt cc kk) ((Tn j : Nat) : Int))) cp8 hZA (by rw [List.length_set, sb_length]) (fun y hy => by rw [← tuB_sb] at hy; exact sb_nn _ y hy) ?_
             refine nT ?_
             refine ⟨(M.drop (.cons_cons _ (.cons_cons _ (.cons_cons _ (.cons_cons _ (List.nil_sublist _)))))), ?_⟩
             refine hl_one 7 (by decide) (by kernel_rfl) rfl ?_
             refine pl_callM M (want_no rfl) (some 204) rfl 10 #[.pointer (some ⟨pb, 0, none⟩), .int .u64 0, .int .u64 (r : Int), .string (tuB cc kk ((Tn j : Nat) : Int))] [⟨g5, ZA⟩, ⟨g4, .cells (av 4 (ls [.int .u64 (r : Int), .string cc, .string (Xa r), .int .i64 (cn qb r)])) 43⟩, ⟨g3, .cells (av 2 (ls [.slice (some ⟨g9, 0, none⟩) na cap9, sv1])) 38⟩, ⟨g2, .cells (av 2 (ls [.pointer (some ⟨pa, 0, none⟩), .pointer (some ⟨pb, 0, none⟩)])) 30⟩] (Tb) ((Ta ++ ([⟨g9, Z9⟩] ++ T1))) (by simp only [List.append_assoc, List.cons_append, List.nil_append, List.append_nil]) (fun T0 => .tuple #[.string (TS.oC (tsB KA KB nb sub qb) 0 r (tuB cc kk ((Tn j : Nat) : Int))), .int .i64 (TS.oE (tsB KA KB nb sub qb) 0 r (tuB cc kk ((Tn j : Nat) : Int)))]) (fun T0 => T0) (fun T0 => IsT pb (TS.oX (tsB KA KB nb sub qb) 0 r (tuB cc kk ((Tn j : Nat) : Int))) T0) (fun _ => by kernel_rfl) (fun w hL hT => a_Open Hb (okS (by omega)) (by decide) (by omega) w hL hT) ?_
             rintro Y2 u15 J2 M
             replace M : Mem ⟨w, []⟩ (⟨g5, ZA⟩ :: ⟨g4, .cells (av 4 (ls [.int .u64 (r : Int), .string cc, .string (Xa r), .int .i64 (cn qb r)])) 43⟩ :: ⟨g3, .cells (av 2 (ls [.slice (some ⟨g9, 0, none⟩) na cap9, sv1])) 38⟩ :: ⟨g2, .cells (av 2 (ls [.pointer (some ⟨pa, 0, none⟩), .pointer (some ⟨pb, 0, none⟩)])) 30⟩ :: (Y2 ++ (Ta ++ ([⟨g9, Z9⟩] ++ T1)))) u15 := by simpa only [List.append_assoc, List.cons_append, List.nil_append, List.append_nil] using M
             refine nT ?_
             refine ⟨(M.drop (.cons_cons _ (.cons_cons _ (.cons_cons _ (.cons_cons _ (List.nil_sublist _)))))), ?_⟩
             refine qV (M.drop (.cons_cons _ (.cons_cons _ (.cons_cons _ (.cons_cons _ (List.nil_sublist _)))))) 8 196 (.tuple #[.string (TS.oC (tsB KA KB nb sub qb) 0 r (tuB cc kk ((Tn j : Nat) : Int))), .int .i64 (TS.oE (tsB KA KB nb sub qb) 0 r (tuB cc kk ((Tn j : Nat) : Int)))]) ?_
             refine qV (M.drop (.cons_cons _ (.cons_cons _ (.cons_cons _ (.cons_cons _ (List.nil_sublist _)))))) 9 205 (.string (TS.oC (tsB KA KB nb sub qb) 0 r (tuB cc kk ((Tn j : Nat) : Int)))) ?_
             refine qV (M.drop (.cons_cons _ (.cons_cons _ (.cons_cons _ (.cons_cons _ (List.nil_sublist _)))))) 10 206 (.int .i64 (TS.oE (tsB KA KB nb sub qb) 0 r (tuB cc kk ((Tn j : Nat) : Int)))) ?_
             refine qV (M.drop (.cons_cons _ (.cons_cons _ (.cons_cons _ (.cons_cons _ (List.nil_sublist _)))))) 11 20 (.string (TS.oC (tsB KA KB nb sub qb) 0 r (tuB cc kk ((Tn j : Nat) : Int)))) ?_
             refine hl_end (by kernel_rfl) (by kernel_rfl) rfl ?_
             refine rV 1 <| nT <| au_then <| wp_seq <| sR ?_
             refine rV 2 ?_
             refine pH 209 (.pointer (some ⟨b4, (o4 + j * 6), none⟩)) (run_ixK 24 27 6 Tryz.underlying24 inz27 _ _ rfl l4 b4 o4 n4 k4 (by kernel_rfl) (hl1 (by omega)) .i64 j (by kernel_rfl) (by omega)) ?_
             refine rV 1 ?_
             refine pE M 211 b4 ((o4 + j * 6) + 5) (.int .u8 ((Tn j : Nat) : Int)) (fun w M => M.oldc (h5 j (by omega)) (by simp)) ?_
             refine pH 212 (.bool true) (jU (((Tn j : Nat) : Int) = 0) (c9)) ?_
             refine nT <| cT <| wp_seq <| sR <| rV 1 ?_
             by_cases c10 : (TS.oE (tsB KA KB nb sub qb) 0 r (tuB cc kk ((Tn j : Nat) : Int))) = 0
             ·refine pH 214 (.bool true) (jT ((TS.oE (tsB KA KB nb sub qb) 0 r (tuB cc kk ((Tn j : Nat) : Int))) = 0) (c10)) ?_
              refine nT <| cT <| sR ?_
              refine ZC M 215 (fun w M => c_speaks w M.laid) fun u16 M => ?_
              refine rV 1 <| nT <| wp_ret <| au_then_ret <| au_then_ret ?_
              refine au_block_ret ?_
              refine au_then_ret <| au_then_ret ?_
              refine au_block_ret ?_
              refine au_then_ret ?_
              exact b1 M
             ·refine pH 214 (.bool false) (jF ((TS.oE (tsB KA KB nb sub qb) 0 r (tuB cc kk ((Tn j : Nat) : Int))) = 0) (c10)) ?_
              refine pl_nil ?_
              rw [oX_no c10] at J2
              refine au_then <| cF <| wp_skip <| au_then ?_
              refine wp_exit ?_
              refine au_then_exit ?_
              refine au_block_exit ?_
              refine au_then ?_
              refine rg_lit ?_
              refine rV 1 ?_
              refine pH 94 (.int .i64 ((j + 1 : Nat) : Int)) (fun w => Eq.trans (b := .ok (.value (.int .i64 (IntKind.wrap .i64 ((j : Int) + 1)))) w) (by kernel_rfl) (by rw [wrap64 (by omega) (by omega)]; rfl)) ?_
              refine rV 1 <| nT ?_
              exact ⟨fun k_ => ([v2 4, undef, undef, undef, undef, undef, undef, undef, .int .i64 1, v2 13, v2 14, v2 15, .slice (some ⟨g9, 0, none⟩) na cap9, .int .i64 (r : Int), .pointer (some ⟨g4, 0, none⟩), .slice (some ⟨g5, 0, none⟩) cc.size cp8, .string (TS.oC (tsB KA KB nb sub qb) 0 r (tuB cc kk ((Tn j : Nat) : Int))), .int .i64 (TS.oE (tsB KA KB nb sub qb) 0 r (tuB cc kk ((Tn j : Nat) : Int))), undef, undef, undef, undef, undef, undef, undef, undef, undef, undef, undef, undef, undef, undef, undef, undef, undef, undef, undef, undef, undef, undef, undef, undef, undef, undef, undef, undef, undef, undef, undef, undef, undef, undef, undef, undef, undef, undef, undef, undef, undef, undef, undef, undef, undef, undef, undef, undef, undef, undef, undef, undef, undef, undef, undef, undef, undef, undef, undef, undef, undef, undef, undef, undef, undef, undef, undef, .int .i64 (j : Int), .slice l4 n4 k4, .int .i64 (n4 : Int), .bool true, .int .i64 (j : Int), .int .i64 ((j + 1 : Nat) : Int), .slice l4 n4 k4, .int .i64 (j : Int), .pointer (some ⟨b4, (o4 + j * 6), none⟩), .pointer (some ⟨b4, ((o4 + j * 6) + 0), none⟩), .bool true, .slice l4 n4 k4, .int .i64 (j : Int), .pointer (some ⟨b4, (o4 + j * 6), none⟩), .pointer (some ⟨b4, ((o4 + j * 6) + 1), none⟩), .bool ((Cf j)), .bool false, v2 106, v2 107, v2 108, v2 109, v2 110, v2 111, v2 112, v2 113, v2 114, v2 115, v2 116, v2 117, v2 118, v2 119, v2 120, v2 121, v2 122, v2 123, v2 124, v2 125, v2 126, v2 127, v2 128, v2 129, v2 130, v2 131, v2 132, v2 133, v2 134, v2 135, v2 136, v2 137, v2 138, v2 139, v2 140, v2 141, v2 142, v2 143, .int .i64 1, .int .i64 0, .pointer (some ⟨g3, 0, none⟩), .slice (some ⟨g9, 0, none⟩) na cap9, .slice (some ⟨g9, 0, none⟩) na cap9, .int .i64 ((na : Nat) : Int), .bool false, .slice l4 n4 k4, .int .i64 (j : Int), .pointer (some ⟨b4, (o4 + j * 6), none⟩), .pointer (some ⟨b4, ((o4 + j * 6) + 3), none⟩), .int .u8 ((Wh j : Nat) : Int), .int .i64 ((Wh j : Nat) : Int), .slice (some ⟨g9, 0, none⟩) na cap9, .int .i64 ((na : Nat) : Int), .int .i64 (r : Int), .slice (some ⟨g9, 0, none⟩) na cap9, .int .i64 (r : Int), .pointer (some ⟨g9, (0 + r * 4), none⟩), .agg (av 4 (ls [.int .u64 (r : Int), .string cc, .string (Xa r), .int .i64 (cn qb r)])), .pointer (some ⟨g4, 1, none⟩), .string cc, .slice (some ⟨g5, 0, none⟩) cc.size cp8, .slice (some ⟨g5, 0, none⟩) cc.size cp8, .slice l4 n4 k4, .int .i64 (j : Int), .pointer (some ⟨b4, (o4 + j * 6), none⟩), .pointer (some ⟨b4, ((o4 + j * 6) + 4), none⟩), .int .u16 ((At j : Nat) : Int), .int .i64 ((At j : Nat) : Int), .slice (some ⟨g5, 0, none⟩) cc.size cp8, .int .i64 ((cc.size : Nat) : Int), .int .i64 (kk : Int), .slice (some ⟨g5, 0, none⟩) cc.size cp8, .slice l4 n4 k4, .int .i64 (j : Int), .pointer (some ⟨b4, (o4 + j * 6), none⟩), .pointer (some ⟨b4, ((o4 + j * 6) + 4), none⟩), .int .u16 ((At j : Nat) : Int), .int .i64 ((At j : Nat) : Int), .slice (some ⟨g5, 0, none⟩) cc.size cp8, .int .i64 ((cc.size : Nat) : Int), .int .i64 (kk : Int), .pointer (some ⟨g5, kk, none⟩), .int .u8 (bt cc kk), .slice l4 n4 k4, .int .i64 (j : Int), .pointer (some ⟨b4, (o4 + j * 6), none⟩), .pointer (some ⟨b4, ((o4 + j * 6) + 5), none⟩), .int .u8 ((Tn j : Nat) : Int), .int .u8 (xb (bt cc kk) ((Tn j : Nat) : Int)), .pointer (some ⟨g5, kk, none⟩), .tuple #[.string (TS.oC (tsB KA KB nb sub qb) 0 r (tuB cc kk ((Tn j : Nat) : Int))), .int .i64 (TS.oE (tsB KA KB nb sub qb) 0 r (tuB cc kk ((Tn j : Nat) : Int)))], .int .i64 1, .pointer (some ⟨g2, 1, none⟩), .pointer (some ⟨pb, 0, none⟩), .pointer (some ⟨g4, 0, none⟩), .int .u64 (r : Int), .slice (some ⟨g5, 0, none⟩) cc.size cp8, .string (tuB cc kk ((Tn j : Nat) : Int)), .tuple #[.string (TS.oC (tsB KA KB nb sub qb) 0 r (tuB cc kk ((Tn j : Nat) : Int))), .int .i64 (TS.oE (tsB KA KB nb sub qb) 0 r (tuB cc kk ((Tn j : Nat) : Int)))], .string (TS.oC (tsB KA KB nb sub qb) 0 r (tuB cc kk ((Tn j : Nat) : Int))), .int .i64 (TS.oE (tsB KA KB nb sub qb) 0 r (tuB cc kk ((Tn j : Nat) : Int))), .slice l4 n4 k4, .int .i64 (j : Int), .pointer (some ⟨b4, (o4 + j * 6), none⟩), .pointer (some ⟨b4, ((o4 + j * 6) + 5), none⟩), .int .u8 ((Tn j : Nat) : Int), .bool true, .int .i64 (TS.oE (tsB KA KB nb sub qb) 0 r (tuB cc kk ((Tn j : Nat) : Int))), .bool false, v2 215, v2 216, v2 217, v2 218, v2 219, v2 220, v2 221, v2 222, v2 223, v2 224, v2 225, v2 226, v2 227, v2 228, v2 229, v2 230, v2 231, v2 232, v2 233, v2 234, v2 235, v2 236, v2 237, v2 238, v2 239, v2 240, v2 241, v2 242, v2 243, v2 244] : List Value).getD (k_ - 4) undef, na, nb, Xa, Xb, qa, qb, sub, _, sv1, Ta, Y2, [⟨g9, Z9⟩], T1, by kernel_rfl, (M.drop (.cons _ (.cons _ (.cons_cons _ (.cons_cons _ (List.Sublist.refl _)))))), Ha, J2, hSk, hs1, by omega, by omega, hqa, hqb, hXa, hXb⟩
          ·refine pH 105 (.bool true) (fun w => Eq.trans (b := .ok (.value (.bool (!(Cf j)))) w) (by kernel_rfl) (by rw [c7]; rfl)) ?_
           refine nT <| cT <| wp_seq ?_
           refine rg_held M [⟨g3, .cells (av 2 (ls [sv0, sv1])) 38⟩, ⟨g2, .cells (av 2 (ls [.pointer (some ⟨pa, 0, none⟩), .pointer (some ⟨pb, 0, none⟩)])) 30⟩] 15 rfl (by kernel_rfl) (by kernel_rfl) (fun _ _ d _ _ h => by cases d <;> exact h) fun u9 M => ?_
           replace M : Mem ⟨w, []⟩ (⟨g3, .cells (av 2 (ls [sv0, sv1])) 38⟩ :: ⟨g2, .cells (av 2 (ls [.pointer (some ⟨pa, 0, none⟩), .pointer (some ⟨pb, 0, none⟩)])) 30⟩ :: (Tb ++ (Ta ++ (T0 ++ T1)))) u9 := M
           refine qV (M.drop (.cons_cons _ (.cons_cons _ (List.nil_sublist _)))) 0 107 (.int .i64 1) ?_
           refine qV (M.drop (.cons_cons _ (.cons_cons _ (List.nil_sublist _)))) 1 108 (.pointer (some ⟨g2, 1, none⟩)) ?_
           refine hl_cell (M.drop (.cons_cons _ (.cons_cons _ (List.nil_sublist _)))) 2 rfl (by decide) (by kernel_rfl) (by kernel_rfl) (want_no rfl) (some 109) rfl 29 _ rfl g2 1 (by kernel_rfl) (.pointer (some ⟨pb, 0, none⟩)) (fun _ => by kernel_rfl) (fun w M => M.cell 1 rfl (by decide) rfl) ?_
           refine qV (M.drop (.cons_cons _ (.cons_cons _ (List.nil_sublist _)))) 3 110 (.slice l4 n4 k4) ?_
           refine qV (M.drop (.cons_cons _ (.cons_cons _ (List.nil_sublist _)))) 4 111 (.int .i64 (j : Int)) ?_
           refine hl_val (M.drop (.cons_cons _ (.cons_cons _ (List.nil_sublist _)))) 5 rfl (by decide) (by kernel_rfl) (by kernel_rfl) (want_no rfl) (some 112) rfl (.pointer (some ⟨b4, (o4 + j * 6), none⟩)) (fun w _ => (run_ixK 24 27 6 Tryz.underlying24 inz27 _ _ rfl l4 b4 o4 n4 k4 (by kernel_rfl) (hl1 (by omega)) .i64 j (by kernel_rfl) (by omega)) w) ?_
           refine qV (M.drop (.cons_cons _ (.cons_cons _ (List.nil_sublist _)))) 6 113 (.pointer (some ⟨b4, ((o4 + j * 6) + 2), none⟩)) ?_
           refine hl_cell (M.drop (.cons_cons _ (.cons_cons _ (List.nil_sublist _)))) 7 rfl (by decide) (by kernel_rfl) (by kernel_rfl) (want_no rfl) (some 114) rfl 9 _ rfl b4 ((o4 + j * 6) + 2) (by kernel_rfl) (.string (Y j)) (fun _ => by kernel_rfl) (fun w M => M.oldc (h2 j (by omega)) (by simp)) ?_
           refine hl_one 8 (by decide) (by kernel_rfl) rfl ?_
           rcases Bool.eq_false_or_eq_true (sub) with c8 | c8
           ·refine pl_callM M (want_no rfl) (some 115) rfl 8 #[.pointer (some ⟨pb, 0, none⟩), .int .u64 0, .string (Y j)] [⟨g3, .cells (av 2 (ls [sv0, sv1])) 38⟩, ⟨g2, .cells (av 2 (ls [.pointer (some ⟨pa, 0, none⟩), .pointer (some ⟨pb, 0, none⟩)])) 30⟩] (Tb) ((Ta ++ (T0 ++ T1))) (by simp only [List.append_assoc, List.cons_append, List.nil_append, List.append_nil]) (fun T0 => .tuple #[.int .u64 (nb : Int), .string (sealS KB (nS (nb : Int)) ⟨#[]⟩ (Y j)), .int .i64 0]) (fun T0 => T0) (fun T0 => IsT pb (tsB KA KB (nb + 1) sub qb) T0) (fun _ => by kernel_rfl) (fun w hL hT => s_ok Hb (okS (by omega)) (by decide) hKB (show (0 : Nat) - 0 < 20 by decide) (show nb < 50 by omega) c8 (by omega) w hL hT) ?_
            rintro Y1 u10 J1 M
            replace M : Mem ⟨w, []⟩ (⟨g3, .cells (av 2 (ls [sv0, sv1])) 38⟩ :: ⟨g2, .cells (av 2 (ls [.pointer (some ⟨pa, 0, none⟩), .pointer (some ⟨pb, 0, none⟩)])) 30⟩ :: (Y1 ++ (Ta ++ (T0 ++ T1)))) u10 := by simpa only [List.append_assoc, List.cons_append, List.nil_append, List.append_nil] using M
            refine nT ?_
            refine ⟨(M.drop (.cons_cons _ (.cons_cons _ (List.nil_sublist _)))), ?_⟩
            refine qV (M.drop (.cons_cons _ (.cons_cons _ (List.nil_sublist _)))) 9 106 (.tuple #[.int .u64 (nb : Int), .string (sealS KB (nS (nb : Int)) ⟨#[]⟩ (Y j)), .int .i64 0]) ?_
            refine qV (M.drop (.cons_cons _ (.cons_cons _ (List.nil_sublist _)))) 10 116 (.int .u64 (nb : Int)) ?_
            refine qV (M.drop (.cons_cons _ (.cons_cons _ (List.nil_sublist _)))) 11 117 (.string (sealS KB (nS (nb : Int)) ⟨#[]⟩ (Y j))) ?_
            refine qV (M.drop (.cons_cons _ (.cons_cons _ (List.nil_sublist _)))) 12 118 (.int .i64 0) ?_
            refine qV (M.drop (.cons_cons _ (.cons_cons _ (List.nil_sublist _)))) 13 13 (.int .u64 (nb : Int)) ?_
            refine qV (M.drop (.cons_cons _ (.cons_cons _ (List.nil_sublist _)))) 14 14 (.string (sealS KB (nS (nb : Int)) ⟨#[]⟩ (Y j))) ?_
            refine hl_end (by kernel_rfl) (by kernel_rfl) rfl ?_
            refine rV 1 <| nT <| au_then <| wp_seq <| sq ?_
            refine cT ?_
            refine rg_held M [⟨g3, .cells (av 2 (ls [sv0, sv1])) 38⟩, ⟨g2, .cells (av 2 (ls [.pointer (some ⟨pa, 0, none⟩), .pointer (some ⟨pb, 0, none⟩)])) 30⟩] 15 rfl (by kernel_rfl) (by kernel_rfl) (fun _ _ d _ _ h => by cases d <;> exact h) fun u11 M => ?_
            replace M : Mem ⟨w, []⟩ (⟨g3, .cells (av 2 (ls [sv0, sv1])) 38⟩ :: ⟨g2, .cells (av 2 (ls [.pointer (some ⟨pa, 0, none⟩), .pointer (some ⟨pb, 0, none⟩)])) 30⟩ :: (Y1 ++ (Ta ++ (T0 ++ T1)))) u11 := M
            refine qV (M.drop (.cons_cons _ (.cons_cons _ (List.nil_sublist _)))) 0 121 (.int .i64 1) ?_
            refine qV (M.drop (.cons_cons _ (.cons_cons _ (List.nil_sublist _)))) 1 122 (.int .i64 1) ?_
            refine qV (M.drop (.cons_cons _ (.cons_cons _ (List.nil_sublist _)))) 2 123 (.pointer (some ⟨g3, 1, none⟩)) ?_
            refine hl_cell (M.drop (.cons_cons _ (.cons_cons _ (List.nil_sublist _)))) 3 rfl (by decide) (by kernel_rfl) (by kernel_rfl) (want_no rfl) (some 124) rfl 37 _ rfl g3 1 (by kernel_rfl) (sv1) (fun _ => by kernel_rfl) (fun w M => M.cell 0 rfl (by decide) rfl) ?_
            refine qV (M.drop (.cons_cons _ (.cons_cons _ (List.nil_sublist _)))) 4 125 (.int .u64 (nb : Int)) ?_
            refine qV (M.drop (.cons_cons _ (.cons_cons _ (List.nil_sublist _)))) 5 126 (.string (sealS KB (nS (nb : Int)) ⟨#[]⟩ (Y j))) ?_
            refine qV (M.drop (.cons_cons _ (.cons_cons _ (List.nil_sublist _)))) 6 127 (.slice l4 n4 k4) ?_
            refine qV (M.drop (.cons_cons _ (.cons_cons _ (List.nil_sublist _)))) 7 128 (.int .i64 (j : Int)) ?_
            refine hl_val (M.drop (.cons_cons _ (.cons_cons _ (List.nil_sublist _)))) 8 rfl (by decide) (by kernel_rfl) (by kernel_rfl) (want_no rfl) (some 129) rfl (.pointer (some ⟨b4, (o4 + j * 6), none⟩)) (fun w _ => (run_ixK 24 27 6 Tryz.underlying24 inz27 _ _ rfl l4 b4 o4 n4 k4 (by kernel_rfl) (hl1 (by omega)) .i64 j (by kernel_rfl) (by omega)) w) ?_
            refine qV (M.drop (.cons_cons _ (.cons_cons _ (List.nil_sublist _)))) 9 130 (.pointer (some ⟨b4, ((o4 + j * 6) + 2), none⟩)) ?_
            refine hl_cell (M.drop (.cons_cons _ (.cons_cons _ (List.nil_sublist _)))) 10 rfl (by decide) (by kernel_rfl) (by kernel_rfl) (want_no rfl) (some 131) rfl 9 _ rfl b4 ((o4 + j * 6) + 2) (by kernel_rfl) (.string (Y j)) (fun _ => by kernel_rfl) (fun w M => M.oldc (h2 j (by omega)) (by simp)) ?_
            refine qV (M.drop (.cons_cons _ (.cons_cons _ (List.nil_sublist _)))) 11 132 (.agg (av 4 (ls [.int .u64 (nb : Int), .string (sealS KB (nS (nb : Int)) ⟨#[]⟩ (Y j)), .string (Y j), .int .i64 0]))) ?_
            refine hl_one 12 (by decide) (by kernel_rfl) rfl ?_
            refine ZM M 133 (fun g4 => .slice (some ⟨g4, 0, none⟩) 1 1) (.cells (av 4 (ls [.int .u64 (nb : Int), .string (sealS KB (nS (nb : Int)) ⟨#[]⟩ (Y j)), .string (Y j), .int .i64 0])) 43) fun g4 u12 M => ?_
            replace M := M.front
            replace M : Mem ⟨w, []⟩ (⟨g4, .cells (av 4 (ls [.int .u64 (nb : Int), .string (sealS KB (nS (nb : Int)) ⟨#[]⟩ (Y j)), .string (Y j), .int .i64 0])) 43⟩ :: ⟨g3, .cells (av 2 (ls [sv0, sv1])) 38⟩ :: ⟨g2, .cells (av 2 (ls [.pointer (some ⟨pa, 0, none⟩), .pointer (some ⟨pb, 0, none⟩)])) 30⟩ :: (Y1 ++ (Ta ++ (T0 ++ T1)))) u12 := M
            refine nT ?_
            refine ⟨(M.drop (.cons _ (.cons_cons _ (.cons_cons _ (List.nil_sublist _))))), ?_⟩
            refine hl_one 13 (by decide) (by kernel_rfl) rfl ?_
            refine pl_appS M (want_no rfl) (some 134) rfl 37 37 43 4 (.agg #[.int .u64 0, .string ⟨#[]⟩, .string ⟨#[]⟩, .int .i64 0]) Tryz.underlying37 infoS rfl (⟨g4, .cells (av 4 (ls [.int .u64 (nb : Int), .string (sealS KB (nS (nb : Int)) ⟨#[]⟩ (Y j)), .string (Y j), .int .i64 0])) 43⟩ :: ⟨g3, .cells (av 2 (ls [sv0, sv1])) 38⟩ :: ⟨g2, .cells (av 2 (ls [.pointer (some ⟨pa, 0, none⟩), .pointer (some ⟨pb, 0, none⟩)])) 30⟩ :: (Y1 ++ (Ta ++ T0))) T1 [] (by simp only [List.append_assoc, List.cons_append, List.nil_append, List.append_nil]) sv1 nb (sL KB Xb qa nb) hs1 (by omega) 0 g4 43 (ls [.int .u64 (nb : Int), .string (sealS KB (nS (nb : Int)) ⟨#[]⟩ (Y j)), .string (Y j), .int .i64 0]) rfl (one_ls _ rfl) (fun _ => by kernel_rfl) ?_
            intro sv2 T2 u13 hS2 M
            replace M : Mem ⟨w, []⟩ (⟨g4, .cells (av 4 (ls [.int .u64 (nb : Int), .string (sealS KB (nS (nb : Int)) ⟨#[]⟩ (Y j)), .string (Y j), .int .i64 0])) 43⟩ :: ⟨g3, .cells (av 2 (ls [sv0, sv1])) 38⟩ :: ⟨g2, .cells (av 2 (ls [.pointer (some ⟨pa, 0, none⟩), .pointer (some ⟨pb, 0, none⟩)])) 30⟩ :: (Y1 ++ (Ta ++ (T0 ++ T2)))) u13 := by simpa only [List.append_assoc, List.cons_append, List.nil_append, List.append_nil] using M
            refine nT ?_
            refine ⟨(M.drop (.cons _ (.cons_cons _ (.cons_cons _ (List.nil_sublist _))))), ?_⟩
            refine qV (M.drop (.cons _ (.cons_cons _ (.cons_cons _ (List.nil_sublist _))))) 14 135 (.pointer (some ⟨g3, 1, none⟩)) ?_
            refine hl_end (by kernel_rfl) (by kernel_rfl) rfl ?_
            refine (pl_put1 M (want_no rfl) rfl 37 _ _ rfl 1 g3 1 (by kernel_rfl) 2 38 (ls [sv0, sv1]) rfl (sv2) (ls [sv0, sv2]) (by kernel_rfl) inz37 (by decide) (slv_one hS2) (slv_cells hS2) (put_ls _ 1 _ _ rfl) ?_)
            intro u14 M
            replace M : Mem ⟨w, []⟩ (⟨g4, .cells (av 4 (ls [.int .u64 (nb : Int), .string (sealS KB (nS (nb : Int)) ⟨#[]⟩ (Y j)), .string (Y j), .int .i64 0])) 43⟩ :: ⟨g3, .cells (av 2 (ls [sv0, sv2])) 38⟩ :: ⟨g2, .cells (av 2 (ls [.pointer (some ⟨pa, 0, none⟩), .pointer (some ⟨pb, 0, none⟩)])) 30⟩ :: (Y1 ++ (Ta ++ (T0 ++ T2)))) u14 := M
            refine nT <| au_then ?_
            refine wp_exit ?_
            refine au_then_exit ?_
            refine au_block_exit ?_
            refine au_then ?_
            refine rg_lit ?_
            refine rV 1 ?_
            refine pH 94 (.int .i64 ((j + 1 : Nat) : Int)) (fun w => Eq.trans (b := .ok (.value (.int .i64 (IntKind.wrap .i64 ((j : Int) + 1)))) w) (by kernel_rfl) (by rw [wrap64 (by omega) (by omega)]; rfl)) ?_
            refine rV 1 <| nT ?_
            exact ⟨fun k_ => ([v2 4, undef, undef, undef, undef, undef, undef, undef, .int .i64 1, .int .u64 (nb : Int), .string (sealS KB (nS (nb : Int)) ⟨#[]⟩ (Y j)), .int .i64 0, v2 16, v2 17, v2 18, v2 19, v2 20, v2 21, undef, undef, undef, undef, undef, undef, undef, undef, undef, undef, undef, undef, undef, undef, undef, undef, undef, undef, undef, undef, undef, undef, undef, undef, undef, undef, undef, undef, undef, undef, undef, undef, undef, undef, undef, undef, undef, undef, undef, undef, undef, undef, undef, undef, undef, undef, undef, undef, undef, undef, undef, undef, undef, undef, undef, undef, undef, undef, undef, undef, undef, undef, undef, undef, undef, undef, undef, .int .i64 (j : Int), .slice l4 n4 k4, .int .i64 (n4 : Int), .bool true, .int .i64 (j : Int), .int .i64 ((j + 1 : Nat) : Int), .slice l4 n4 k4, .int .i64 (j : Int), .pointer (some ⟨b4, (o4 + j * 6), none⟩), .pointer (some ⟨b4, ((o4 + j * 6) + 0), none⟩), .bool true, .slice l4 n4 k4, .int .i64 (j : Int), .pointer (some ⟨b4, (o4 + j * 6), none⟩), .pointer (some ⟨b4, ((o4 + j * 6) + 1), none⟩), .bool ((Cf j)), .bool true, .tuple #[.int .u64 (nb : Int), .string (sealS KB (nS (nb : Int)) ⟨#[]⟩ (Y j)), .int .i64 0], .int .i64 1, .pointer (some ⟨g2, 1, none⟩), .pointer (some ⟨pb, 0, none⟩), .slice l4 n4 k4, .int .i64 (j : Int), .pointer (some ⟨b4, (o4 + j * 6), none⟩), .pointer (some ⟨b4, ((o4 + j * 6) + 2), none⟩), .string (Y j), .tuple #[.int .u64 (nb : Int), .string (sealS KB (nS (nb : Int)) ⟨#[]⟩ (Y j)), .int .i64 0], .int .u64 (nb : Int), .string (sealS KB (nS (nb : Int)) ⟨#[]⟩ (Y j)), .int .i64 0, .int .i64 0, .bool true, .int .i64 1, .int .i64 1, .pointer (some ⟨g3, 1, none⟩), sv1, .int .u64 (nb : Int), .string (sealS KB (nS (nb : Int)) ⟨#[]⟩ (Y j)), .slice l4 n4 k4, .int .i64 (j : Int), .pointer (some ⟨b4, (o4 + j * 6), none⟩), .pointer (some ⟨b4, ((o4 + j * 6) + 2), none⟩), .string (Y j), .agg (av 4 (ls [.int .u64 (nb : Int), .string (sealS KB (nS (nb : Int)) ⟨#[]⟩ (Y j)), .string (Y j), .int .i64 0])), .slice (some ⟨g4, 0, none⟩) 1 1, sv2, .pointer (some ⟨g3, 1, none⟩), v2 136, v2 137, v2 138, v2 139, v2 140, v2 141, v2 142, v2 143, v2 144, v2 145, v2 146, v2 147, v2 148, v2 149, v2 150, v2 151, v2 152, v2 153, v2 154, v2 155, v2 156, v2 157, v2 158, v2 159, v2 160, v2 161, v2 162, v2 163, v2 164, v2 165, v2 166, v2 167, v2 168, v2 169, v2 170, v2 171, v2 172, v2 173, v2 174, v2 175, v2 176, v2 177, v2 178, v2 179, v2 180, v2 181, v2 182, v2 183, v2 184, v2 185, v2 186, v2 187, v2 188, v2 189, v2 190, v2 191, v2 192, v2 193, v2 194, v2 195, v2 196, v2 197, v2 198, v2 199, v2 200, v2 201, v2 202, v2 203, v2 204, v2 205, v2 206, v2 207, v2 208, v2 209, v2 210, v2 211, v2 212, v2 213, v2 214, v2 215, v2 216, v2 217, v2 218, v2 219, v2 220, v2 221, v2 222, v2 223, v2 224, v2 225, v2 226, v2 227, v2 228, v2 229, v2 230, v2 231, v2 232, v2 233, v2 234, v2 235, v2 236, v2 237, v2 238, v2 239, v2 240, v2 241, v2 242, v2 243, v2 244] : List Value).getD (k_ - 4) undef, na, (nb + 1), Xa, (upd Xb nb (Y j)), qa, qb, sub, sv0, sv2, Ta, Y1, T0, T2, by kernel_rfl, (M.drop (.cons _ (.cons_cons _ (.cons_cons _ (List.Sublist.refl _))))), Ha, J1, hs0, by rw [← sL_app hqa]; exact hS2, by omega, by omega, fun t ht => Nat.lt_succ_of_lt (hqa t ht), hqb, hXa, up_size hXb (by omega)⟩
           ·refine pl_callM M (want_no rfl) (some 115) rfl 8 #[.pointer (some ⟨pb, 0, none⟩), .int .u64 0, .string (Y j)] [⟨g3, .cells (av 2 (ls [sv0, sv1])) 38⟩, ⟨g2, .cells (av 2 (ls [.pointer (some ⟨pa, 0, none⟩), .pointer (some ⟨pb, 0, none⟩)])) 30⟩] (Tb) ((Ta ++ (T0 ++ T1))) (by simp only [List.append_assoc, List.cons_append, List.nil_append, List.append_nil]) (fun T0 => .tuple #[.int .u64 0, .string ⟨#[]⟩, .int .i64 3]) (fun T0 => T0) (fun T0 => IsT pb (tsB KA KB nb sub qb) T0) (fun _ => by kernel_rfl) (fun w hL hT => s_no Hb (okS (by omega)) (by decide) hKB (show (0 : Nat) - 0 < 20 by decide) (show nb < 50 by omega) c8 w hL hT) ?_
            rintro Y1 u10 J1 M
            replace M : Mem ⟨w, []⟩ (⟨g3, .cells (av 2 (ls [sv0, sv1])) 38⟩ :: ⟨g2, .cells (av 2 (ls [.pointer (some ⟨pa, 0, none⟩), .pointer (some ⟨pb, 0, none⟩)])) 30⟩ :: (Y1 ++ (Ta ++ (T0 ++ T1)))) u10 := by simpa only [List.append_assoc, List.cons_append, List.nil_append, List.append_nil] using M
            refine nT ?_
            refine ⟨(M.drop (.cons_cons _ (.cons_cons _ (List.nil_sublist _)))), ?_⟩
            refine qV (M.drop (.cons_cons _ (.cons_cons _ (List.nil_sublist _)))) 9 106 (.tuple #[.int .u64 0, .string ⟨#[]⟩, .int .i64 3]) ?_
            refine qV (M.drop (.cons_cons _ (.cons_cons _ (List.nil_sublist _)))) 10 116 (.int .u64 0) ?_
            refine qV (M.drop (.cons_cons _ (.cons_cons _ (List.nil_sublist _)))) 11 117 (.string ⟨#[]⟩) ?_
            refine qV (M.drop (.cons_cons _ (.cons_cons _ (List.nil_sublist _)))) 12 118 (.int .i64 3) ?_
            refine qV (M.drop (.cons_cons _ (.cons_cons _ (List.nil_sublist _)))) 13 13 (.int .u64 0) ?_
            refine qV (M.drop (.cons_cons _ (.cons_cons _ (List.nil_sublist _)))) 14 14 (.string ⟨#[]⟩) ?_
            refine hl_end (by kernel_rfl) (by kernel_rfl) rfl ?_
            refine rV 1 <| nT <| au_then <| wp_seq <| sq ?_
            refine cF <| sR <| rV 5 ?_
            refine pl_cell M (want_on 2 false rfl 138 rfl (by kernel_rfl)) (some 141) rfl 29 _ rfl g2 1 (by kernel_rfl) (.pointer (some ⟨pb, 0, none⟩)) (fun _ => by kernel_rfl) (fun w M => M.cell 1 rfl (by decide) rfl) ?_
            refine pl_call M (want_on 2 false rfl 138 rfl (by kernel_rfl)) (some 142) rfl 9 #[.pointer (some ⟨pb, 0, none⟩)] (.bool false) (fun _ => by kernel_rfl) (fun w M => call_val (a_Sure J1 w M.laid (M.thereM (pre := [⟨g3, .cells (av 2 (ls [sv0, sv1])) 38⟩, ⟨g2, .cells (av 2 (ls [.pointer (some ⟨pa, 0, none⟩), .pointer (some ⟨pb, 0, none⟩)])) 30⟩]) (T := Y1) (suf := (Ta ++ (T0 ++ T1))) (by simp only [List.append_assoc, List.cons_append, List.nil_append, List.append_nil]))) (congrArg Value.bool c8)) fun u11 M => ?_
            refine rV 1 <| nT <| cF <| wp_skip <| au_then ?_
            refine wp_exit ?_
            refine au_then_exit ?_
            refine au_block_exit ?_
            refine au_then ?_
            refine rg_lit ?_
            refine rV 1 ?_
            refine pH 94 (.int .i64 ((j + 1 : Nat) : Int)) (fun w => Eq.trans (b := .ok (.value (.int .i64 (IntKind.wrap .i64 ((j : Int) + 1)))) w) (by kernel_rfl) (by rw [wrap64 (by omega) (by omega)]; rfl)) ?_
            refine rV 1 <| nT ?_
            exact ⟨fun k_ => ([v2 4, undef, undef, undef, undef, undef, undef, undef, .int .i64 1, .int .u64 0, .string ⟨#[]⟩, .int .i64 3, v2 16, v2 17, v2 18, v2 19, v2 20, v2 21, undef, undef, undef, undef, undef, undef, undef, undef, undef, undef, undef, undef, undef, undef, undef, undef, undef, undef, undef, undef, undef, undef, undef, undef, undef, undef, undef, undef, undef, undef, undef, undef, undef, undef, undef, undef, undef, undef, undef, undef, undef, undef, undef, undef, undef, undef, undef, undef, undef, undef, undef, undef, undef, undef, undef, undef, undef, undef, undef, undef, undef, undef, undef, undef, undef, undef, undef, .int .i64 (j : Int), .slice l4 n4 k4, .int .i64 (n4 : Int), .bool true, .int .i64 (j : Int), .int .i64 ((j + 1 : Nat) : Int), .slice l4 n4 k4, .int .i64 (j : Int), .pointer (some ⟨b4, (o4 + j * 6), none⟩), .pointer (some ⟨b4, ((o4 + j * 6) + 0), none⟩), .bool true, .slice l4 n4 k4, .int .i64 (j : Int), .pointer (some ⟨b4, (o4 + j * 6), none⟩), .pointer (some ⟨b4, ((o4 + j * 6) + 1), none⟩), .bool ((Cf j)), .bool true, .tuple #[.int .u64 0, .string ⟨#[]⟩, .int .i64 3], .int .i64 1, .pointer (some ⟨g2, 1, none⟩), .pointer (some ⟨pb, 0, none⟩), .slice l4 n4 k4, .int .i64 (j : Int), .pointer (some ⟨b4, (o4 + j * 6), none⟩), .pointer (some ⟨b4, ((o4 + j * 6) + 2), none⟩), .string (Y j), .tuple #[.int .u64 0, .string ⟨#[]⟩, .int .i64 3], .int .u64 0, .string ⟨#[]⟩, .int .i64 3, .int .i64 3, .bool false, v2 121, v2 122, v2 123, v2 124, v2 125, v2 126, v2 127, v2 128, v2 129, v2 130, v2 131, v2 132, v2 133, v2 134, v2 135, .int .i64 1, .bool false, .bool false, .int .i64 1, .pointer (some ⟨g2, 1, none⟩), .pointer (some ⟨pb, 0, none⟩), .bool false, .bool false, v2 144, v2 145, v2 146, v2 147, v2 148, v2 149, v2 150, v2 151, v2 152, v2 153, v2 154, v2 155, v2 156, v2 157, v2 158, v2 159, v2 160, v2 161, v2 162, v2 163, v2 164, v2 165, v2 166, v2 167, v2 168, v2 169, v2 170, v2 171, v2 172, v2 173, v2 174, v2 175, v2 176, v2 177, v2 178, v2 179, v2 180, v2 181, v2 182, v2 183, v2 184, v2 185, v2 186, v2 187, v2 188, v2 189, v2 190, v2 191, v2 192, v2 193, v2 194, v2 195, v2 196, v2 197, v2 198, v2 199, v2 200, v2 201, v2 202, v2 203, v2 204, v2 205, v2 206, v2 207, v2 208, v2 209, v2 210, v2 211, v2 212, v2 213, v2 214, v2 215, v2 216, v2 217, v2 218, v2 219, v2 220, v2 221, v2 222, v2 223, v2 224, v2 225, v2 226, v2 227, v2 228, v2 229, v2 230, v2 231, v2 232, v2 233, v2 234, v2 235, v2 236, v2 237, v2 238, v2 239, v2 240, v2 241, v2 242, v2 243, v2 244] : List Value).getD (k_ - 4) undef, na, nb, Xa, Xb, qa, qb, sub, sv0, sv1, Ta, Y1, T0, T1, by kernel_rfl, M, Ha, J1, hs0, hs1, by omega, by omega, hqa, hqb, hXa, hXb⟩
         ·rw [c6]
          refine cF <| wp_skip <| au_then <| wp_seq <| sR ?_
          refine rV 2 ?_
          refine pH 102 (.pointer (some ⟨b4, (o4 + j * 6), none⟩)) (run_ixK 24 27 6 Tryz.underlying24 inz27 _ _ rfl l4 b4 o4 n4 k4 (by kernel_rfl) (hl1 (by omega)) .i64 j (by kernel_rfl) (by omega)) ?_
          refine rV 1 ?_
          refine pE M 104 b4 ((o4 + j * 6) + 1) (.bool ((Cf j))) (fun w M => M.oldc (h1 j (by omega)) (by simp)) ?_
          rcases Bool.eq_false_or_eq_true ((Cf j)) with c7 | c7
          ·refine pH 105 (.bool false) (fun w => Eq.trans (b := .ok (.value (.bool (!(Cf j)))) w) (by kernel_rfl) (by rw [c7]; rfl)) ?_
           refine nT <| cF <| wp_skip <| au_then <| sR ?_
           refine rV 3 <| ZE M 147 0 1 <| rV 1 <| nT <| wp_seq ?_
           refine sR <| rV 1 ?_
           refine pH 149 (.int .i64 ((nb : Nat) : Int)) (fun w => by rcases hs1.ex with ⟨hn_, rfl, _⟩ | ⟨_, _, _, _, rfl, _⟩; (rw [hn_]; kernel_rfl); kernel_rfl) ?_
           by_cases c8 : ((nb : Nat) : Int) = 0
           ·refine pH 150 (.bool true) (jT (((nb : Nat) : Int) = 0) (c8)) ?_
            refine nT <| cT ?_
            refine wp_exit ?_
            refine au_then_exit ?_
            refine au_block_exit ?_
            refine au_then ?_
            refine rg_lit ?_
            refine rV 1 ?_
            refine pH 94 (.int .i64 ((j + 1 : Nat) : Int)) (fun w => Eq.trans (b := .ok (.value (.int .i64 (IntKind.wrap .i64 ((j : Int) + 1)))) w) (by kernel_rfl) (by rw [wrap64 (by omega) (by omega)]; rfl)) ?_
            refine rV 1 <| nT ?_
            exact ⟨fun k_ => ([v2 4, undef, undef, undef, undef, undef, undef, undef, .int .i64 0, v2 13, v2 14, v2 15, sv1, v2 17, v2 18, v2 19, v2 20, v2 21, undef, undef, undef, undef, undef, undef, undef, undef, undef, undef, undef, undef, undef, undef, undef, undef, undef, undef, undef, undef, undef, undef, undef, undef, undef, undef, undef, undef, undef, undef, undef, undef, undef, undef, undef, undef, undef, undef, undef, undef, undef, undef, undef, undef, undef, undef, undef, undef, undef, undef, undef, undef, undef, undef, undef, undef, undef, undef, undef, undef, undef, undef, undef, undef, undef, undef, undef, .int .i64 (j : Int), .slice l4 n4 k4, .int .i64 (n4 : Int), .bool true, .int .i64 (j : Int), .int .i64 ((j + 1 : Nat) : Int), .slice l4 n4 k4, .int .i64 (j : Int), .pointer (some ⟨b4, (o4 + j * 6), none⟩), .pointer (some ⟨b4, ((o4 + j * 6) + 0), none⟩), .bool false, .slice l4 n4 k4, .int .i64 (j : Int), .pointer (some ⟨b4, (o4 + j * 6), none⟩), .pointer (some ⟨b4, ((o4 + j * 6) + 1), none⟩), .bool ((Cf j)), .bool false, v2 106, v2 107, v2 108, v2 109, v2 110, v2 111, v2 112, v2 113, v2 114, v2 115, v2 116, v2 117, v2 118, v2 119, v2 120, v2 121, v2 122, v2 123, v2 124, v2 125, v2 126, v2 127, v2 128, v2 129, v2 130, v2 131, v2 132, v2 133, v2 134, v2 135, v2 136, v2 137, v2 138, v2 139, v2 140, v2 141, v2 142, v2 143, .int .i64 0, .int .i64 1, .pointer (some ⟨g3, 1, none⟩), sv1, sv1, .int .i64 ((nb : Nat) : Int), .bool true, v2 151, v2 152, v2 153, v2 154, v2 155, v2 156, v2 157, v2 158, v2 159, v2 160, v2 161, v2 162, v2 163, v2 164, v2 165, v2 166, v2 167, v2 168, v2 169, v2 170, v2 171, v2 172, v2 173, v2 174, v2 175, v2 176, v2 177, v2 178, v2 179, v2 180, v2 181, v2 182, v2 183, v2 184, v2 185, v2 186, v2 187, v2 188, v2 189, v2 190, v2 191, v2 192, v2 193, v2 194, v2 195, v2 196, v2 197, v2 198, v2 199, v2 200, v2 201, v2 202, v2 203, v2 204, v2 205, v2 206, v2 207, v2 208, v2 209, v2 210, v2 211, v2 212, v2 213, v2 214, v2 215, v2 216, v2 217, v2 218, v2 219, v2 220, v2 221, v2 222, v2 223, v2 224, v2 225, v2 226, v2 227, v2 228, v2 229, v2 230, v2 231, v2 232, v2 233, v2 234, v2 235, v2 236, v2 237, v2 238, v2 239, v2 240, v2 241, v2 242, v2 243, v2 244] : List Value).getD (k_ - 4) undef, na, nb, Xa, Xb, qa, qb, sub, sv0, sv1, Ta, Tb, T0, T1, by kernel_rfl, M, Ha, Hb, hs0, hs1, by omega, by omega, hqa, hqb, hXa, hXb⟩
           ·refine pH 150 (.bool false) (jF (((nb : Nat) : Int) = 0) (c8)) ?_
            refine nT <| cF <| wp_skip <| au_then <| sR ?_
            refine rV 2 ?_
            refine pH 153 (.pointer (some ⟨b4, (o4 + j * 6), none⟩)) (run_ixK 24 27 6 Tryz.underlying24 inz27 _ _ rfl l4 b4 o4 n4 k4 (by kernel_rfl) (hl1 (by omega)) .i64 j (by kernel_rfl) (by omega)) ?_
            refine rV 1 ?_
            refine pE M 155 b4 ((o4 + j * 6) + 3) (.int .u8 ((Wh j : Nat) : Int)) (fun w M => M.oldc (h3 j (by omega)) (by simp)) ?_
            refine pH 156 (.int .i64 ((Wh j : Nat) : Int)) (fun w => Eq.trans (b := .ok (.value (.int .i64 (cv .i64 ((Wh j : Nat) : Int)))) w) (by kernel_rfl) (by have := hW j hj; rw [cv_i64 (by omega) (by omega)])) ?_
            refine rV 1 ?_
            refine pH 158 (.int .i64 ((nb : Nat) : Int)) (fun w => by rcases hs1.ex with ⟨hn_, rfl, _⟩ | ⟨_, _, _, _, rfl, _⟩; (rw [hn_]; kernel_rfl); kernel_rfl) ?_
            refine pH 159 (.int .i64 ((Wh j % nb : Nat) : Int)) (run_remN 3 3 _ _ rfl (Wh j) nb (by kernel_rfl) (by kernel_rfl) (by omega)) ?_
            refine rV 1 ?_
            refine pl_nil ?_
            have hr := Nat.mod_lt (Wh j) (show 0 < nb by omega)
            generalize Wh j % nb = r at hr ⊢
            have hXr := hXb r hr
            have hat := sL_at KB Xb qa hr
            have hcs := sealS_size KB (nS (r : Int)) ⟨#[]⟩ (Xb r)
            obtain ⟨cc, hcc⟩ : ∃ cc, sealS KB (nS (r : Int)) ⟨#[]⟩ (Xb r) = cc := ⟨_, rfl⟩
            rw [hcc] at hat hcs
            have hK := Nat.mod_lt (At j) (show 0 < cc.size by omega)
            obtain ⟨kk, hkk⟩ : ∃ kk, At j % cc.size = kk := ⟨_, rfl⟩
            rw [hkk] at hK
            have hSk := hs1
            rcases hs1.ex with ⟨h0_, -, -⟩ | ⟨g9, cap9, Z9, hn_g9, rfl, hle_g9, hZ9, rfl⟩
            ·exfalso; omega
            refine au_then <| sR <| rV 2 ?_
            refine pH 162 (.pointer (some ⟨g9, (0 + r * 4), none⟩)) (run_ixK 37 43 4 Tryz.underlying37 inz43 _ _ rfl (some ⟨g9, 0, none⟩) g9 0 nb cap9 (by kernel_rfl) rfl .i64 r (by kernel_rfl) hr) ?_
            refine pl_loadO M (want_no rfl) (some 163) rfl 43 _ rfl g9 (0 + r * 4) (by kernel_rfl) 4 (ls [.int .u64 (r : Int), .string cc, .string (Xb r), .int .i64 (cn qa r)]) (fun w M k hk => ?_) _ Tryz.underlying43 rfl inz43 ?_
            ·have hz9 : w.heap[g9]? = some Z9 := (M.thereM (pre := (⟨g3, .cells (av 2 (ls [sv0, .slice (some ⟨g9, 0, none⟩) nb cap9])) 38⟩ :: ⟨g2, .cells (av 2 (ls [.pointer (some ⟨pa, 0, none⟩), .pointer (some ⟨pb, 0, none⟩)])) 30⟩ :: (Tb ++ (Ta ++ T0)))) (T := [⟨g9, Z9⟩]) (suf := []) (by simp only [List.append_assoc, List.cons_append, List.nil_append, List.append_nil])).at_ ⟨g9, Z9⟩ (by simp)
             match k, hk with
             | 0, _ => exact hZ9.cell hz9 (by rw [show 0 + r * 4 + 0 = r * 4 + 0 by omega]; exact hat.1)
             | 1, _ => exact hZ9.cell hz9 (by rw [show 0 + r * 4 + 1 = r * 4 + 1 by omega]; exact hat.2.1)
             | 2, _ => exact hZ9.cell hz9 (by rw [show 0 + r * 4 + 2 = r * 4 + 2 by omega]; exact hat.2.2.1)
             | 3, _ => exact hZ9.cell hz9 (by rw [show 0 + r * 4 + 3 = r * 4 + 3 by omega]; exact hat.2.2.2)
            refine pN M 18 (.cells (av 4 (ls [.int .u64 0, .string ⟨#[]⟩, .string ⟨#[]⟩, .int .i64 0])) 43) fun g4 u9 M => ?_
            replace M := M.front
            replace M : Mem ⟨w, []⟩ (⟨g4, .cells (av 4 (ls [.int .u64 0, .string ⟨#[]⟩, .string ⟨#[]⟩, .int .i64 0])) 43⟩ :: ⟨g3, .cells (av 2 (ls [sv0, .slice (some ⟨g9, 0, none⟩) nb cap9])) 38⟩ :: ⟨g2, .cells (av 2 (ls [.pointer (some ⟨pa, 0, none⟩), .pointer (some ⟨pb, 0, none⟩)])) 30⟩ :: (Tb ++ (Ta ++ (T0 ++ [⟨g9, Z9⟩])))) u9 := M
            refine pl_put M (want_no rfl) rfl 43 _ _ rfl 0 g4 0 (by kernel_rfl) 4 43 (ls [.int .u64 0, .string ⟨#[]⟩, .string ⟨#[]⟩, .int .i64 0]) rfl 4 (ls [.int .u64 (r : Int), .string cc, .string (Xb r), .int .i64 (cn qa r)]) (ls [.int .u64 (r : Int), .string cc, .string (Xb r), .int .i64 (cn qa r)]) (by kernel_rfl) inz43 (by decide) (one_ls _ rfl) (fun j hj => by rw [if_pos (by omega), Nat.sub_zero]) fun u10 M => ?_
            replace M : Mem ⟨w, []⟩ (⟨g4, .cells (av 4 (ls [.int .u64 (r : Int), .string cc, .string (Xb r), .int .i64 (cn qa r)])) 43⟩ :: ⟨g3, .cells (av 2 (ls [sv0, .slice (some ⟨g9, 0, none⟩) nb cap9])) 38⟩ :: ⟨g2, .cells (av 2 (ls [.pointer (some ⟨pa, 0, none⟩), .pointer (some ⟨pb, 0, none⟩)])) 30⟩ :: (Tb ++ (Ta ++ (T0 ++ [⟨g9, Z9⟩])))) u10 := M
            refine nT <| sR <| rV 1 <| ZE M 165 0 1 ?_
            refine pl_conv M (want_no rfl) (some 166) rfl _ rfl cc (by kernel_rfl) ?_
            intro g5 cp8 Z8 u11 hZ8 M
            replace M := M.front
            replace M : Mem ⟨w, []⟩ (⟨g5, Z8⟩ :: ⟨g4, .cells (av 4 (ls [.int .u64 (r : Int), .string cc, .string (Xb r), .int .i64 (cn qa r)])) 43⟩ :: ⟨g3, .cells (av 2 (ls [sv0, .slice (some ⟨g9, 0, none⟩) nb cap9])) 38⟩ :: ⟨g2, .cells (av 2 (ls [.pointer (some ⟨pa, 0, none⟩), .pointer (some ⟨pb, 0, none⟩)])) 30⟩ :: (Tb ++ (Ta ++ (T0 ++ [⟨g9, Z9⟩])))) u11 := M
            refine rV 1 <| nT <| wp_seq ?_
            refine rg_held M [⟨g5, Z8⟩, ⟨g4, .cells (av 4 (ls [.int .u64 (r : Int), .string cc, .string (Xb r), .int .i64 (cn qa r)])) 43⟩, ⟨g3, .cells (av 2 (ls [sv0, .slice (some ⟨g9, 0, none⟩) nb cap9])) 38⟩, ⟨g2, .cells (av 2 (ls [.pointer (some ⟨pa, 0, none⟩), .pointer (some ⟨pb, 0, none⟩)])) 30⟩] 29 rfl (by kernel_rfl) (by kernel_rfl) (fun _ _ d _ _ h => by cases d <;> exact h) fun u12 M => ?_
            replace M : Mem ⟨w, []⟩ (⟨g5, Z8⟩ :: ⟨g4, .cells (av 4 (ls [.int .u64 (r : Int), .string cc, .string (Xb r), .int .i64 (cn qa r)])) 43⟩ :: ⟨g3, .cells (av 2 (ls [sv0, .slice (some ⟨g9, 0, none⟩) nb cap9])) 38⟩ :: ⟨g2, .cells (av 2 (ls [.pointer (some ⟨pa, 0, none⟩), .pointer (some ⟨pb, 0, none⟩)])) 30⟩ :: (Tb ++ (Ta ++ (T0 ++ [⟨g9, Z9⟩])))) u12 := M
            refine qV (M.drop (.cons_cons _ (.cons_cons _ (.cons_cons _ (.cons_cons _ (List.nil_sublist _)))))) 0 167 (.slice (some ⟨g5, 0, none⟩) cc.size cp8) ?_
            refine qV (M.drop (.cons_cons _ (.cons_cons _ (.cons_cons _ (.cons_cons _ (List.nil_sublist _)))))) 1 168 (.slice l4 n4 k4) ?_
            refine qV (M.drop (.cons_cons _ (.cons_cons _ (.cons_cons _ (.cons_cons _ (List.nil_sublist _)))))) 2 169 (.int .i64 (j : Int)) ?_
            refine hl_val (M.drop (.cons_cons _ (.cons_cons _ (.cons_cons _ (.cons_cons _ (List.nil_sublist _)))))) 3 rfl (by decide) (by kernel_rfl) (by kernel_rfl) (want_no rfl) (some 170) rfl (.pointer (some ⟨b4, (o4 + j * 6), none⟩)) (fun w _ => (run_ixK 24 27 6 Tryz.underlying24 inz27 _ _ rfl l4 b4 o4 n4 k4 (by kernel_rfl) (hl1 (by omega)) .i64 j (by kernel_rfl) (by omega)) w) ?_
            refine qV (M.drop (.cons_cons _ (.cons_cons _ (.cons_cons _ (.cons_cons _ (List.nil_sublist _)))))) 4 171 (.pointer (some ⟨b4, ((o4 + j * 6) + 4), none⟩)) ?_
            refine hl_cell (M.drop (.cons_cons _ (.cons_cons _ (.cons_cons _ (.cons_cons _ (List.nil_sublist _)))))) 5 rfl (by decide) (by kernel_rfl) (by kernel_rfl) (want_no rfl) (some 172) rfl 25 _ rfl b4 ((o4 + j * 6) + 4) (by kernel_rfl) (.int .u16 ((At j : Nat) : Int)) (fun _ => by kernel_rfl) (fun w M => M.oldc (h4 j (by omega)) (by simp)) ?_
            refine hl_val (M.drop (.cons_cons _ (.cons_cons _ (.cons_cons _ (.cons_cons _ (List.nil_sublist _)))))) 6 rfl (by decide) (by kernel_rfl) (by kernel_rfl) (want_no rfl) (some 173) rfl (.int .i64 ((At j : Nat) : Int)) (fun w _ => (fun w => Eq.trans (b := .ok (.value (.int .i64 (cv .i64 ((At j : Nat) : Int)))) w) (by kernel_rfl) (by have := hA j hj; rw [cv_i64 (by omega) (by omega)])) w) ?_
            refine qV (M.drop (.cons_cons _ (.cons_cons _ (.cons_cons _ (.cons_cons _ (List.nil_sublist _)))))) 7 174 (.slice (some ⟨g5, 0, none⟩) cc.size cp8) ?_
            refine qV (M.drop (.cons_cons _ (.cons_cons _ (.cons_cons _ (.cons_cons _ (List.nil_sublist _)))))) 8 175 (.int .i64 ((cc.size : Nat) : Int)) ?_
            refine hl_val (M.drop (.cons_cons _ (.cons_cons _ (.cons_cons _ (.cons_cons _ (List.nil_sublist _)))))) 9 rfl (by decide) (by kernel_rfl) (by kernel_rfl) (want_no rfl) (some 176) rfl (.int .i64 (kk : Int)) (fun w _ => (fun w => Eq.trans (run_remN 3 3 _ _ rfl (At j) cc.size (by kernel_rfl) (by kernel_rfl) (by omega) w) (by rw [hkk])) w) ?_
            refine qV (M.drop (.cons_cons _ (.cons_cons _ (.cons_cons _ (.cons_cons _ (List.nil_sublist _)))))) 10 177 (.slice (some ⟨g5, 0, none⟩) cc.size cp8) ?_
            refine qV (M.drop (.cons_cons _ (.cons_cons _ (.cons_cons _ (.cons_cons _ (List.nil_sublist _)))))) 11 178 (.slice l4 n4 k4) ?_
            refine qV (M.drop (.cons_cons _ (.cons_cons _ (.cons_cons _ (.cons_cons _ (List.nil_sublist _)))))) 12 179 (.int .i64 (j : Int)) ?_
            refine hl_val (M.drop (.cons_cons _ (.cons_cons _ (.cons_cons _ (.cons_cons _ (List.nil_sublist _)))))) 13 rfl (by decide) (by kernel_rfl) (by kernel_rfl) (want_no rfl) (some 180) rfl (.pointer (some ⟨b4, (o4 + j * 6), none⟩)) (fun w _ => (run_ixK 24 27 6 Tryz.underlying24 inz27 _ _ rfl l4 b4 o4 n4 k4 (by kernel_rfl) (hl1 (by omega)) .i64 j (by kernel_rfl) (by omega)) w) ?_
            refine qV (M.drop (.cons_cons _ (.cons_cons _ (.cons_cons _ (.cons_cons _ (List.nil_sublist _)))))) 14 181 (.pointer (some ⟨b4, ((o4 + j * 6) + 4), none⟩)) ?_
            refine hl_cell (M.drop (.cons_cons _ (.cons_cons _ (.cons_cons _ (.cons_cons _ (List.nil_sublist _)))))) 15 rfl (by decide) (by kernel_rfl) (by kernel_rfl) (want_no rfl) (some 182) rfl 25 _ rfl b4 ((o4 + j * 6) + 4) (by kernel_rfl) (.int .u16 ((At j : Nat) : Int)) (fun _ => by kernel_rfl) (fun w M => M.oldc (h4 j (by omega)) (by simp)) ?_
            refine hl_val (M.drop (.cons_cons _ (.cons_cons _ (.cons_cons _ (.cons_cons _ (List.nil_sublist _)))))) 16 rfl (by decide) (by kernel_rfl) (by kernel_rfl) (want_no rfl) (some 183) rfl (.int .i64 ((At j : Nat) : Int)) (fun w _ => (fun w => Eq.trans (b := .ok (.value (.int .i64 (cv .i64 ((At j : Nat) : Int)))) w) (by kernel_rfl) (by have := hA j hj; rw [cv_i64 (by omega) (by omega)])) w) ?_
            refine qV (M.drop (.cons_cons _ (.cons_cons _ (.cons_cons _ (.cons_cons _ (List.nil_sublist _)))))) 17 184 (.slice (some ⟨g5, 0, none⟩) cc.size cp8) ?_
            refine qV (M.drop (.cons_cons _ (.cons_cons _ (.cons_cons _ (.cons_cons _ (List.nil_sublist _)))))) 18 185 (.int .i64 ((cc.size : Nat) : Int)) ?_
            refine hl_val (M.drop (.cons_cons _ (.cons_cons _ (.cons_cons _ (.cons_cons _ (List.nil_sublist _)))))) 19 rfl (by decide) (by kernel_rfl) (by kernel_rfl) (want_no rfl) (some 186) rfl (.int .i64 (kk : Int)) (fun w _ => (fun w => Eq.trans (run_remN 3 3 _ _ rfl (At j) cc.size (by kernel_rfl) (by kernel_rfl) (by omega) w) (by rw [hkk])) w) ?_
            refine hl_val (M.drop (.cons_cons _ (.cons_cons _ (.cons_cons _ (.cons_cons _ (List.nil_sublist _)))))) 20 rfl (by decide) (by kernel_rfl) (by kernel_rfl) (want_no rfl) (some 187) rfl (.pointer (some ⟨g5, kk, none⟩)) (fun w _ => (run_ix0 44 5 Tryz.underlying44 inz5 _ _ rfl g5 cc.size cp8 (by kernel_rfl) .i64 kk (by kernel_rfl) hK) w) ?_
            refine hl_cell (M.drop (.cons_cons _ (.cons_cons _ (.cons_cons _ (.cons_cons _ (List.nil_sublist _)))))) 21 rfl (by decide) (by kernel_rfl) (by kernel_rfl) (want_no rfl) (some 188) rfl 5 _ rfl g5 kk (by kernel_rfl) (.int .u8 (bt cc kk)) (fun _ => by kernel_rfl) (fun w M => hZ8.cell (M.get 0 rfl) (vs8_sb _ _ hK)) ?_
            refine qV (M.drop (.cons_cons _ (.cons_cons _ (.cons_cons _ (.cons_cons _ (List.nil_sublist _)))))) 22 189 (.slice l4 n4 k4) ?_
            refine qV (M.drop (.cons_cons _ (.cons_cons _ (.cons_cons _ (.cons_cons _ (List.nil_sublist _)))))) 23 190 (.int .i64 (j : Int)) ?_
            refine hl_val (M.drop (.cons_cons _ (.cons_cons _ (.cons_cons _ (.cons_cons _ (List.nil_sublist _)))))) 24 rfl (by decide) (by kernel_rfl) (by kernel_rfl) (want_no rfl) (some 191) rfl (.pointer (some ⟨b4, (o4 + j * 6), none⟩)) (fun w _ => (run_ixK 24 27 6 Tryz.underlying24 inz27 _ _ rfl l4 b4 o4 n4 k4 (by kernel_rfl) (hl1 (by omega)) .i64 j (by kernel_rfl) (by omega)) w) ?_
            refine qV (M.drop (.cons_cons _ (.cons_cons _ (.cons_cons _ (.cons_cons _ (List.nil_sublist _)))))) 25 192 (.pointer (some ⟨b4, ((o4 + j * 6) + 5), none⟩)) ?_
            refine hl_cell (M.drop (.cons_cons _ (.cons_cons _ (.cons_cons _ (.cons_cons _ (List.nil_sublist _)))))) 26 rfl (by decide) (by kernel_rfl) (by kernel_rfl) (want_no rfl) (some 193) rfl 5 _ rfl b4 ((o4 + j * 6) + 5) (by kernel_rfl) (.int .u8 ((Tn j : Nat) : Int)) (fun _ => by kernel_rfl) (fun w M => M.oldc (h5 j (by omega)) (by simp)) ?_
            refine qV (M.drop (.cons_cons _ (.cons_cons _ (.cons_cons _ (.cons_cons _ (List.nil_sublist _)))))) 27 194 (.int .u8 (xb (bt cc kk) ((Tn j : Nat) : Int))) ?_
            refine hl_val (M.drop (.cons_cons _ (.cons_cons _ (.cons_cons _ (.cons_cons _ (List.nil_sublist _)))))) 28 rfl (by decide) (by kernel_rfl) (by kernel_rfl) (want_no rfl) (some 195) rfl (.pointer (some ⟨g5, kk, none⟩)) (fun w _ => (run_ix0 44 5 Tryz.underlying44 inz5 _ _ rfl g5 cc.size cp8 (by kernel_rfl) .i64 kk (by kernel_rfl) hK) w) ?_
            refine hl_end (by kernel_rfl) (by kernel_rfl) rfl ?_
            refine pl_putS M (want_no rfl) rfl 5 _ _ rfl 0 g5 kk (by kernel_rfl) _ rfl cp8 _ hZ8 (by rw [vs8_length, sb_length]; exact hK) (.int .u8 (xb (bt cc kk) ((Tn j : Nat) : Int))) (by kernel_rfl) inz5 rfl rfl ?_
            intro ZA u13 hZA M
            rw [vs8_set] at hZA
            replace M : Mem ⟨w, []⟩ (⟨g5, ZA⟩ :: ⟨g4, .cells (av 4 (ls [.int .u64 (r : Int), .string cc, .string (Xb r), .int .i64 (cn qa r)])) 43⟩ :: ⟨g3, .cells (av 2 (ls [sv0, .slice (some ⟨g9, 0, none⟩) nb cap9])) 38⟩ :: ⟨g2, .cells (av 2 (ls [.pointer (some ⟨pa, 0, none⟩), .pointer (some ⟨pb, 0, none⟩)])) 30⟩ :: (Tb ++ (Ta ++ (T0 ++ [⟨g9, Z9⟩])))) u13 := M
            refine nT ?_
            by_cases c9 : ((Tn j : Nat) : Int) = 0
            ·by_cases c10 : r ∈ qa
             ·have hm := my_old hqa (show nb ≤ 64 by omega) c10
              have hcn : cn qa r = 1 := cn_in c10
              rw [hcn] at hat M
              have hb0 := tuB_0 cc _ hK
              refine au_then <| wp_seq ?_
              refine rg_held M [⟨g5, ZA⟩, ⟨g4, .cells (av 4 (ls [.int .u64 (r : Int), .string cc, .string (Xb r), .int .i64 1])) 43⟩, ⟨g3, .cells (av 2 (ls [sv0, .slice (some ⟨g9, 0, none⟩) nb cap9])) 38⟩, ⟨g2, .cells (av 2 (ls [.pointer (some ⟨pa, 0, none⟩), .pointer (some ⟨pb, 0, none⟩)])) 30⟩] 12 rfl (by kernel_rfl) (by kernel_rfl) (fun _ _ d _ _ h => by cases d <;> exact h) fun u14 M => ?_
              replace M : Mem ⟨w, []⟩ (⟨g5, ZA⟩ :: ⟨g4, .cells (av 4 (ls [.int .u64 (r : Int), .string cc, .string (Xb r), .int .i64 1])) 43⟩ :: ⟨g3, .cells (av 2 (ls [sv0, .slice (some ⟨g9, 0, none⟩) nb cap9])) 38⟩ :: ⟨g2, .cells (av 2 (ls [.pointer (some ⟨pa, 0, none⟩), .pointer (some ⟨pb, 0, none⟩)])) 30⟩ :: (Tb ++ (Ta ++ (T0 ++ [⟨g9, Z9⟩])))) u14 := M
              refine qV (M.drop (.cons_cons _ (.cons_cons _ (.cons_cons _ (.cons_cons _ (List.nil_sublist _)))))) 0 197 (.int .i64 0) ?_
              refine qV (M.drop (.cons_cons _ (.cons_cons _ (.cons_cons _ (.cons_cons _ (List.nil_sublist _)))))) 1 198 (.pointer (some ⟨g2, 0, none⟩)) ?_
              refine hl_cell (M.drop (.cons_cons _ (.cons_cons _ (.cons_cons _ (.cons_cons _ (List.nil_sublist _)))))) 2 rfl (by decide) (by kernel_rfl) (by kernel_rfl) (want_no rfl) (some 199) rfl 29 _ rfl g2 0 (by kernel_rfl) (.pointer (some ⟨pa, 0, none⟩)) (fun _ => by kernel_rfl) (fun w M => M.cell 3 rfl (by decide) rfl) ?_
              refine qV (M.drop (.cons_cons _ (.cons_cons _ (.cons_cons _ (.cons_cons _ (List.nil_sublist _)))))) 3 200 (.pointer (some ⟨g4, 0, none⟩)) ?_
              refine hl_cell (M.drop (.cons_cons _ (.cons_cons _ (.cons_cons _ (.cons_cons _ (List.nil_sublist _)))))) 4 rfl (by decide) (by kernel_rfl) (by kernel_rfl) (want_no rfl) (some 201) rfl 33 _ rfl g4 0 (by kernel_rfl) (.int .u64 (r : Int)) (fun _ => by kernel_rfl) (fun w M => M.cell 1 rfl (by decide) rfl) ?_
              refine qV (M.drop (.cons_cons _ (.cons_cons _ (.cons_cons _ (.cons_cons _ (List.nil_sublist _)))))) 5 202 (.slice (some ⟨g5, 0, none⟩) cc.size cp8) ?_
              refine hl_one 6 (by decide) (by kernel_rfl) rfl ?_
              refine pl_back M (want_no rfl) (some 203) rfl _ rfl 0 g5 cc.size cp8 (by kernel_rfl) _ rfl ((sb cc).set kk (xb (bt cc kk) ((Tn j : Nat) : Int))) cp8 hZA (by rw [List.length_set, sb_length]) (fun y hy => by rw [← tuB_sb] at hy; exact sb_nn _ y hy) ?_
              refine nT ?_
              refine ⟨(M.drop (.cons_cons _ (.cons_cons _ (.cons_cons _ (.cons_cons _ (List.nil_sublist _)))))), ?_⟩
              refine hl_one 7 (by decide) (by kernel_rfl) rfl ?_
              refine pl_callM M (want_no rfl) (some 204) rfl 10 #[.pointer (some ⟨pa, 0, none⟩), .int .u64 0, .int .u64 (r : Int), .string (tuB cc kk ((Tn j : Nat) : Int))] (⟨g5, ZA⟩ :: ⟨g4, .cells (av 4 (ls [.int .u64 (r : Int), .string cc, .string (Xb r), .int .i64 1])) 43⟩ :: ⟨g3, .cells (av 2 (ls [sv0, .slice (some ⟨g9, 0, none⟩) nb cap9])) 38⟩ :: ⟨g2, .cells (av 2 (ls [.pointer (some ⟨pa, 0, none⟩), .pointer (some ⟨pb, 0, none⟩)])) 30⟩ :: Tb) (Ta) ((T0 ++ [⟨g9, Z9⟩])) (by simp only [List.append_assoc, List.cons_append, List.nil_append, List.append_nil]) (fun T0 => .tuple #[.string ⟨#[]⟩, .int .i64 9]) (fun T0 => T0) (fun T0 => IsT pa (tsA KA KB na qa) T0) (fun _ => by kernel_rfl) (fun w hL hT => by rw [c9, hb0, ← hcc]; rw [← hm]; exact o_no Ha (okS (by omega)) (by decide) (by omega) hKA (show (0 : Nat) - 0 < 20 by decide) (show r < 50 by omega) (by rw [hm]; decide) w hL hT) ?_
              rintro Y2 u15 J2 M
              replace M : Mem ⟨w, []⟩ (⟨g5, ZA⟩ :: ⟨g4, .cells (av 4 (ls [.int .u64 (r : Int), .string cc, .string (Xb r), .int .i64 1])) 43⟩ :: ⟨g3, .cells (av 2 (ls [sv0, .slice (some ⟨g9, 0, none⟩) nb cap9])) 38⟩ :: ⟨g2, .cells (av 2 (ls [.pointer (some ⟨pa, 0, none⟩), .pointer (some ⟨pb, 0, none⟩)])) 30⟩ :: (Tb ++ (Y2 ++ (T0 ++ [⟨g9, Z9⟩])))) u15 := by simpa only [List.append_assoc, List.cons_append, List.nil_append, List.append_nil] using M
              refine nT ?_
              refine ⟨(M.drop (.cons_cons _ (.cons_cons _ (.cons_cons _ (.cons_cons _ (List.nil_sublist _)))))), ?_⟩
              refine qV (M.drop (.cons_cons _ (.cons_cons _ (.cons_cons _ (.cons_cons _ (List.nil_sublist _)))))) 8 196 (.tuple #[.string ⟨#[]⟩, .int .i64 9]) ?_
              refine qV (M.drop (.cons_cons _ (.cons_cons _ (.cons_cons _ (.cons_cons _ (List.nil_sublist _)))))) 9 205 (.string ⟨#[]⟩) ?_
              refine qV (M.drop (.cons_cons _ (.cons_cons _ (.cons_cons _ (.cons_cons _ (List.nil_sublist _)))))) 10 206 (.int .i64 9) ?_
              refine qV (M.drop (.cons_cons _ (.cons_cons _ (.cons_cons _ (.cons_cons _ (List.nil_sublist _)))))) 11 20 (.string ⟨#[]⟩) ?_
              refine hl_end (by kernel_rfl) (by kernel_rfl) rfl ?_
              refine rV 1 <| nT <| au_then <| wp_seq <| sR ?_
              refine rV 2 ?_
              refine pH 209 (.pointer (some ⟨b4, (o4 + j * 6), none⟩)) (run_ixK 24 27 6 Tryz.underlying24 inz27 _ _ rfl l4 b4 o4 n4 k4 (by kernel_rfl) (hl1 (by omega)) .i64 j (by kernel_rfl) (by omega)) ?_
              refine rV 1 ?_
              refine pE M 211 b4 ((o4 + j * 6) + 5) (.int .u8 ((Tn j : Nat) : Int)) (fun w M => M.oldc (h5 j (by omega)) (by simp)) ?_
              refine pH 212 (.bool false) (jD (((Tn j : Nat) : Int) = 0) (c9)) ?_
              refine nT <| cF <| wp_skip <| au_then <| wp_seq ?_
              refine sR <| rV 3 <| ZE M 219 1 3 <| rV 12 <| nT ?_
              refine cF <| wp_skip <| au_then <| sq <| cF ?_
              refine wp_skip ?_
              refine au_block ?_
              refine au_then ?_
              refine rg_lit ?_
              refine rV 1 ?_
              refine pH 94 (.int .i64 ((j + 1 : Nat) : Int)) (fun w => Eq.trans (b := .ok (.value (.int .i64 (IntKind.wrap .i64 ((j : Int) + 1)))) w) (by kernel_rfl) (by rw [wrap64 (by omega) (by omega)]; rfl)) ?_
              refine rV 1 <| nT ?_
              exact ⟨fun k_ => ([v2 4, undef, undef, undef, undef, undef, undef, undef, .int .i64 0, v2 13, v2 14, v2 15, .slice (some ⟨g9, 0, none⟩) nb cap9, .int .i64 (r : Int), .pointer (some ⟨g4, 0, none⟩), .slice (some ⟨g5, 0, none⟩) cc.size cp8, .string ⟨#[]⟩, .int .i64 9, undef, undef, undef, undef, undef, undef, undef, undef, undef, undef, undef, undef, undef, undef, undef, undef, undef, undef, undef, undef, undef, undef, undef, undef, undef, undef, undef, undef, undef, undef, undef, undef, undef, undef, undef, undef, undef, undef, undef, undef, undef, undef, undef, undef, undef, undef, undef, undef, undef, undef, undef, undef, undef, undef, undef, undef, undef, undef, undef, undef, undef, undef, undef, undef, undef, undef, undef, .int .i64 (j : Int), .slice l4 n4 k4, .int .i64 (n4 : Int), .bool true, .int .i64 (j : Int), .int .i64 ((j + 1 : Nat) : Int), .slice l4 n4 k4, .int .i64 (j : Int), .pointer (some ⟨b4, (o4 + j * 6), none⟩), .pointer (some ⟨b4, ((o4 + j * 6) + 0), none⟩), .bool false, .slice l4 n4 k4, .int .i64 (j : Int), .pointer (some ⟨b4, (o4 + j * 6), none⟩), .pointer (some ⟨b4, ((o4 + j * 6) + 1), none⟩), .bool ((Cf j)), .bool false, v2 106, v2 107, v2 108, v2 109, v2 110, v2 111, v2 112, v2 113, v2 114, v2 115, v2 116, v2 117, v2 118, v2 119, v2 120, v2 121, v2 122, v2 123, v2 124, v2 125, v2 126, v2 127, v2 128, v2 129, v2 130, v2 131, v2 132, v2 133, v2 134, v2 135, v2 136, v2 137, v2 138, v2 139, v2 140, v2 141, v2 142, v2 143, .int .i64 0, .int .i64 1, .pointer (some ⟨g3, 1, none⟩), .slice (some ⟨g9, 0, none⟩) nb cap9, .slice (some ⟨g9, 0, none⟩) nb cap9, .int .i64 ((nb : Nat) : Int), .bool false, .slice l4 n4 k4, .int .i64 (j : Int), .pointer (some ⟨b4, (o4 + j * 6), none⟩), .pointer (some ⟨b4, ((o4 + j * 6) + 3), none⟩), .int .u8 ((Wh j : Nat) : Int), .int .i64 ((Wh j : Nat) : Int), .slice (some ⟨g9, 0, none⟩) nb cap9, .int .i64 ((nb : Nat) : Int), .int .i64 (r : Int), .slice (some ⟨g9, 0, none⟩) nb cap9, .int .i64 (r : Int), .pointer (some ⟨g9, (0 + r * 4), none⟩), .agg (av 4 (ls [.int .u64 (r : Int), .string cc, .string (Xb r), .int .i64 (cn qa r)])), .pointer (some ⟨g4, 1, none⟩), .string cc, .slice (some ⟨g5, 0, none⟩) cc.size cp8, .slice (some ⟨g5, 0, none⟩) cc.size cp8, .slice l4 n4 k4, .int .i64 (j : Int), .pointer (some ⟨b4, (o4 + j * 6), none⟩), .pointer (some ⟨b4, ((o4 + j * 6) + 4), none⟩), .int .u16 ((At j : Nat) : Int), .int .i64 ((At j : Nat) : Int), .slice (some ⟨g5, 0, none⟩) cc.size cp8, .int .i64 ((cc.size : Nat) : Int), .int .i64 (kk : Int), .slice (some ⟨g5, 0, none⟩) cc.size cp8, .slice l4 n4 k4, .int .i64 (j : Int), .pointer (some ⟨b4, (o4 + j * 6), none⟩), .pointer (some ⟨b4, ((o4 + j * 6) + 4), none⟩), .int .u16 ((At j : Nat) : Int), .int .i64 ((At j : Nat) : Int), .slice (some ⟨g5, 0, none⟩) cc.size cp8, .int .i64 ((cc.size : Nat) : Int), .int .i64 (kk : Int), .pointer (some ⟨g5, kk, none⟩), .int .u8 (bt cc kk), .slice l4 n4 k4, .int .i64 (j : Int), .pointer (some ⟨b4, (o4 + j * 6), none⟩), .pointer (some ⟨b4, ((o4 + j * 6) + 5), none⟩), .int .u8 ((Tn j : Nat) : Int), .int .u8 (xb (bt cc kk) ((Tn j : Nat) : Int)), .pointer (some ⟨g5, kk, none⟩), .tuple #[.string ⟨#[]⟩, .int .i64 9], .int .i64 0, .pointer (some ⟨g2, 0, none⟩), .pointer (some ⟨pa, 0, none⟩), .pointer (some ⟨g4, 0, none⟩), .int .u64 (r : Int), .slice (some ⟨g5, 0, none⟩) cc.size cp8, .string (tuB cc kk ((Tn j : Nat) : Int)), .tuple #[.string ⟨#[]⟩, .int .i64 9], .string ⟨#[]⟩, .int .i64 9, .slice l4 n4 k4, .int .i64 (j : Int), .pointer (some ⟨b4, (o4 + j * 6), none⟩), .pointer (some ⟨b4, ((o4 + j * 6) + 5), none⟩), .int .u8 ((Tn j : Nat) : Int), .bool false, v2 213, v2 214, v2 215, .int .i64 9, .bool false, .pointer (some ⟨g4, 3, none⟩), .int .i64 1, .bool false, .bool false, .bool false, .int .i64 9, .bool false, .bool false, undef, undef, undef, undef, .bool false, .bool false, .int .i64 9, .bool false, v2 234, v2 235, v2 236, v2 237, v2 238, v2 239, v2 240, v2 241, v2 242, v2 243, v2 244] : List Value).getD (k_ - 4) undef, na, nb, Xa, Xb, qa, qb, sub, sv0, _, Y2, Tb, T0, [⟨g9, Z9⟩], by kernel_rfl, (M.drop (.cons _ (.cons _ (.cons_cons _ (.cons_cons _ (List.Sublist.refl _)))))), J2, Hb, hs0, hSk, by omega, by omega, hqa, hqb, hXa, hXb⟩
             ·have hm := my_new hqa (show nb ≤ 64 by omega) c10
              have hcn : cn qa r = 0 := cn_out c10
              rw [hcn] at hat M
              have hb0 := tuB_0 cc _ hK
              refine au_then <| wp_seq ?_
              refine rg_held M [⟨g5, ZA⟩, ⟨g4, .cells (av 4 (ls [.int .u64 (r : Int), .string cc, .string (Xb r), .int .i64 0])) 43⟩, ⟨g3, .cells (av 2 (ls [sv0, .slice (some ⟨g9, 0, none⟩) nb cap9])) 38⟩, ⟨g2, .cells (av 2 (ls [.pointer (some ⟨pa, 0, none⟩), .pointer (some ⟨pb, 0, none⟩)])) 30⟩] 12 rfl (by kernel_rfl) (by kernel_rfl) (fun _ _ d _ _ h => by cases d <;> exact h) fun u14 M => ?_
              replace M : Mem ⟨w, []⟩ (⟨g5, ZA⟩ :: ⟨g4, .cells (av 4 (ls [.int .u64 (r : Int), .string cc, .string (Xb r), .int .i64 0])) 43⟩ :: ⟨g3, .cells (av 2 (ls [sv0, .slice (some ⟨g9, 0, none⟩) nb cap9])) 38⟩ :: ⟨g2, .cells (av 2 (ls [.pointer (some ⟨pa, 0, none⟩), .pointer (some ⟨pb, 0, none⟩)])) 30⟩ :: (Tb ++ (Ta ++ (T0 ++ [⟨g9, Z9⟩])))) u14 := M
              refine qV (M.drop (.cons_cons _ (.cons_cons _ (.cons_cons _ (.cons_cons _ (List.nil_sublist _)))))) 0 197 (.int .i64 0) ?_
              refine qV (M.drop (.cons_cons _ (.cons_cons _ (.cons_cons _ (.cons_cons _ (List.nil_sublist _)))))) 1 198 (.pointer (some ⟨g2, 0, none⟩)) ?_
              refine hl_cell (M.drop (.cons_cons _ (.cons_cons _ (.cons_cons _ (.cons_cons _ (List.nil_sublist _)))))) 2 rfl (by decide) (by kernel_rfl) (by kernel_rfl) (want_no rfl) (some 199) rfl 29 _ rfl g2 0 (by kernel_rfl) (.pointer (some ⟨pa, 0, none⟩)) (fun _ => by kernel_rfl) (fun w M => M.cell 3 rfl (by decide) rfl) ?_
              refine qV (M.drop (.cons_cons _ (.cons_cons _ (.cons_cons _ (.cons_cons _ (List.nil_sublist _)))))) 3 200 (.pointer (some ⟨g4, 0, none⟩)) ?_
              refine hl_cell (M.drop (.cons_cons _ (.cons_cons _ (.cons_cons _ (.cons_cons _ (List.nil_sublist _)))))) 4 rfl (by decide) (by kernel_rfl) (by kernel_rfl) (want_no rfl) (some 201) rfl 33 _ rfl g4 0 (by kernel_rfl) (.int .u64 (r : Int)) (fun _ => by kernel_rfl) (fun w M => M.cell 1 rfl (by decide) rfl) ?_
              refine qV (M.drop (.cons_cons _ (.cons_cons _ (.cons_cons _ (.cons_cons _ (List.nil_sublist _)))))) 5 202 (.slice (some ⟨g5, 0, none⟩) cc.size cp8) ?_
              refine hl_one 6 (by decide) (by kernel_rfl) rfl ?_
              refine pl_back M (want_no rfl) (some 203) rfl _ rfl 0 g5 cc.size cp8 (by kernel_rfl) _ rfl ((sb cc).set kk (xb (bt cc kk) ((Tn j : Nat) : Int))) cp8 hZA (by rw [List.length_set, sb_length]) (fun y hy => by rw [← tuB_sb] at hy; exact sb_nn _ y hy) ?_
              refine nT ?_
              refine ⟨(M.drop (.cons_cons _ (.cons_cons _ (.cons_cons _ (.cons_cons _ (List.nil_sublist _)))))), ?_⟩
              refine hl_one 7 (by decide) (by kernel_rfl) rfl ?_
              refine pl_callM M (want_no rfl) (some 204) rfl 10 #[.pointer (some ⟨pa, 0, none⟩), .int .u64 0, .int .u64 (r : Int), .string (tuB cc kk ((Tn j : Nat) : Int))] (⟨g5, ZA⟩ :: ⟨g4, .cells (av 4 (ls [.int .u64 (r : Int), .string cc, .string (Xb r), .int .i64 0])) 43⟩ :: ⟨g3, .cells (av 2 (ls [sv0, .slice (some ⟨g9, 0, none⟩) nb cap9])) 38⟩ :: ⟨g2, .cells (av 2 (ls [.pointer (some ⟨pa, 0, none⟩), .pointer (some ⟨pb, 0, none⟩)])) 30⟩ :: Tb) (Ta) ((T0 ++ [⟨g9, Z9⟩])) (by simp only [List.append_assoc, List.cons_append, List.nil_append, List.append_nil]) (fun T0 => .tuple #[.string (Xb r), .int .i64 0]) (fun T0 => T0) (fun T0 => IsT pa (tsA KA KB na (qa ++ [r])) T0) (fun _ => by kernel_rfl) (fun w hL hT => by rw [c9, hb0, ← hcc]; exact o_ok Ha (okS (by omega)) (by decide) (by omega) hKA hKB (show (0 : Nat) - 0 < 20 by decide) (show r < 50 by omega) hm (by omega) w hL hT) ?_
              rintro Y2 u15 J2 M
              replace M : Mem ⟨w, []⟩ (⟨g5, ZA⟩ :: ⟨g4, .cells (av 4 (ls [.int .u64 (r : Int), .string cc, .string (Xb r), .int .i64 0])) 43⟩ :: ⟨g3, .cells (av 2 (ls [sv0, .slice (some ⟨g9, 0, none⟩) nb cap9])) 38⟩ :: ⟨g2, .cells (av 2 (ls [.pointer (some ⟨pa, 0, none⟩), .pointer (some ⟨pb, 0, none⟩)])) 30⟩ :: (Tb ++ (Y2 ++ (T0 ++ [⟨g9, Z9⟩])))) u15 := by simpa only [List.append_assoc, List.cons_append, List.nil_append, List.append_nil] using M
              refine nT ?_
              refine ⟨(M.drop (.cons_cons _ (.cons_cons _ (.cons_cons _ (.cons_cons _ (List.nil_sublist _)))))), ?_⟩
              refine qV (M.drop (.cons_cons _ (.cons_cons _ (.cons_cons _ (.cons_cons _ (List.nil_sublist _)))))) 8 196 (.tuple #[.string (Xb r), .int .i64 0]) ?_
              refine qV (M.drop (.cons_cons _ (.cons_cons _ (.cons_cons _ (.cons_cons _ (List.nil_sublist _)))))) 9 205 (.string (Xb r)) ?_
              refine qV (M.drop (.cons_cons _ (.cons_cons _ (.cons_cons _ (.cons_cons _ (List.nil_sublist _)))))) 10 206 (.int .i64 0) ?_
              refine qV (M.drop (.cons_cons _ (.cons_cons _ (.cons_cons _ (.cons_cons _ (List.nil_sublist _)))))) 11 20 (.string (Xb r)) ?_
              refine hl_end (by kernel_rfl) (by kernel_rfl) rfl ?_
              refine rV 1 <| nT <| au_then <| wp_seq <| sR ?_
              refine rV 2 ?_
              refine pH 209 (.pointer (some ⟨b4, (o4 + j * 6), none⟩)) (run_ixK 24 27 6 Tryz.underlying24 inz27 _ _ rfl l4 b4 o4 n4 k4 (by kernel_rfl) (hl1 (by omega)) .i64 j (by kernel_rfl) (by omega)) ?_
              refine rV 1 ?_
              refine pE M 211 b4 ((o4 + j * 6) + 5) (.int .u8 ((Tn j : Nat) : Int)) (fun w M => M.oldc (h5 j (by omega)) (by simp)) ?_
              refine pH 212 (.bool false) (jD (((Tn j : Nat) : Int) = 0) (c9)) ?_
              refine nT <| cF <| wp_skip <| au_then <| wp_seq ?_
              refine sR <| rV 3 <| ZE M 219 1 3 <| rV 8 ?_
              refine pl_cell M (want_on 9 true rfl 225 rfl (by kernel_rfl)) (some 228) rfl 9 _ rfl g4 2 (by kernel_rfl) (.string (Xb r)) (fun _ => by kernel_rfl) (fun w M => M.cell 1 rfl (by decide) rfl) ?_
              refine pl_val (want_on 9 true rfl 225 rfl (by kernel_rfl)) (some 229) rfl (.bool false) (fun w => Eq.trans (b := .ok (.value (.bool (!((Xb r).toList == (Xb r).toList)))) w) (by kernel_rfl) (by rw [beq_self_eq_true]; rfl)) ?_
              refine rV 2 <| nT <| cF <| wp_skip <| au_then ?_
              refine sR <| rV 2 ?_
              refine pl_nil ?_
              replace M := M.fetch (pre := (⟨g5, ZA⟩ :: ⟨g4, .cells (av 4 (ls [.int .u64 (r : Int), .string cc, .string (Xb r), .int .i64 0])) 43⟩ :: ⟨g3, .cells (av 2 (ls [sv0, .slice (some ⟨g9, 0, none⟩) nb cap9])) 38⟩ :: ⟨g2, .cells (av 2 (ls [.pointer (some ⟨pa, 0, none⟩), .pointer (some ⟨pb, 0, none⟩)])) 30⟩ :: (Tb ++ (Y2 ++ T0)))) (b := ⟨g9, Z9⟩) (suf := []) (by simp only [List.append_assoc, List.cons_append, List.nil_append, List.append_nil])
              replace M : Mem ⟨w, []⟩ (⟨g9, Z9⟩ :: ⟨g5, ZA⟩ :: ⟨g4, .cells (av 4 (ls [.int .u64 (r : Int), .string cc, .string (Xb r), .int .i64 0])) 43⟩ :: ⟨g3, .cells (av 2 (ls [sv0, .slice (some ⟨g9, 0, none⟩) nb cap9])) 38⟩ :: ⟨g2, .cells (av 2 (ls [.pointer (some ⟨pa, 0, none⟩), .pointer (some ⟨pb, 0, none⟩)])) 30⟩ :: (Tb ++ (Y2 ++ T0))) u15 := by simpa only [List.append_assoc, List.cons_append, List.nil_append, List.append_nil] using M
              refine au_then <| cT ?_
              refine rg_lit ?_
              refine rV 3 <| ZE M 237 3 1 <| rV 1 ?_
              refine pH 239 (.pointer (some ⟨g9, (0 + r * 4), none⟩)) (run_ixK 37 43 4 Tryz.underlying37 inz43 _ _ rfl (some ⟨g9, 0, none⟩) g9 0 nb cap9 (by kernel_rfl) rfl .i64 r (by kernel_rfl) hr) ?_
              refine rV 1 ?_
              refine pE M 241 g9 ((0 + r * 4) + 3) (.int .i64 0) (fun w M => hZ9.cell (M.get 0 rfl) (by rw [show 0 + r * 4 + 3 = r * 4 + 3 by omega]; exact hat.2.2.2)) ?_
              refine rV 1 ?_
              refine pH 243 (.pointer (some ⟨g9, (0 + r * 4), none⟩)) (run_ixK 37 43 4 Tryz.underlying37 inz43 _ _ rfl (some ⟨g9, 0, none⟩) g9 0 nb cap9 (by kernel_rfl) rfl .i64 r (by kernel_rfl) hr) ?_
              refine rV 1 ?_
              refine pl_putS M (want_no rfl) rfl 3 _ _ rfl 0 g9 (0 + r * 4 + 3) (by kernel_rfl) _ rfl (cap9 * 4) _ hZ9 (by rw [sL_len]; omega) (.int .i64 1) (by kernel_rfl) inz3 rfl rfl ?_
              intro ZB u16 hZB M
              rw [show 0 + r * 4 + 3 = r * 4 + 3 by omega, sL_hear hr] at hZB
              replace M : Mem ⟨w, []⟩ (⟨g9, ZB⟩ :: ⟨g5, ZA⟩ :: ⟨g4, .cells (av 4 (ls [.int .u64 (r : Int), .string cc, .string (Xb r), .int .i64 0])) 43⟩ :: ⟨g3, .cells (av 2 (ls [sv0, .slice (some ⟨g9, 0, none⟩) nb cap9])) 38⟩ :: ⟨g2, .cells (av 2 (ls [.pointer (some ⟨pa, 0, none⟩), .pointer (some ⟨pb, 0, none⟩)])) 30⟩ :: (Tb ++ (Y2 ++ T0))) u16 := M
              refine pl_nil ?_
              replace M : Mem ⟨w, []⟩ (⟨g5, ZA⟩ :: ⟨g4, .cells (av 4 (ls [.int .u64 (r : Int), .string cc, .string (Xb r), .int .i64 0])) 43⟩ :: ⟨g3, .cells (av 2 (ls [sv0, .slice (some ⟨g9, 0, none⟩) nb cap9])) 38⟩ :: ⟨g2, .cells (av 2 (ls [.pointer (some ⟨pa, 0, none⟩), .pointer (some ⟨pb, 0, none⟩)])) 30⟩ :: (Tb ++ (Y2 ++ (T0 ++ [⟨g9, ZB⟩])))) u16 := by simpa only [List.append_assoc, List.cons_append, List.nil_append, List.append_nil] using Mem.unfetch (pre := (⟨g5, ZA⟩ :: ⟨g4, .cells (av 4 (ls [.int .u64 (r : Int), .string cc, .string (Xb r), .int .i64 0])) 43⟩ :: ⟨g3, .cells (av 2 (ls [sv0, .slice (some ⟨g9, 0, none⟩) nb cap9])) 38⟩ :: ⟨g2, .cells (av 2 (ls [.pointer (some ⟨pa, 0, none⟩), .pointer (some ⟨pb, 0, none⟩)])) 30⟩ :: (Tb ++ (Y2 ++ T0)))) (b := ⟨g9, ZB⟩) (suf := []) (by simpa only [List.append_assoc, List.cons_append, List.nil_append, List.append_nil] using M)
              refine au_block ?_
              refine au_then ?_
              refine rg_lit ?_
              refine rV 1 ?_
              refine pH 94 (.int .i64 ((j + 1 : Nat) : Int)) (fun w => Eq.trans (b := .ok (.value (.int .i64 (IntKind.wrap .i64 ((j : Int) + 1)))) w) (by kernel_rfl) (by rw [wrap64 (by omega) (by omega)]; rfl)) ?_
              refine rV 1 <| nT ?_
              exact ⟨fun k_ => ([v2 4, undef, undef, undef, undef, undef, undef, undef, .int .i64 0, v2 13, v2 14, v2 15, .slice (some ⟨g9, 0, none⟩) nb cap9, .int .i64 (r : Int), .pointer (some ⟨g4, 0, none⟩), .slice (some ⟨g5, 0, none⟩) cc.size cp8, .string (Xb r), .int .i64 0, undef, undef, undef, undef, undef, undef, undef, undef, undef, undef, undef, undef, undef, undef, undef, undef, undef, undef, undef, undef, undef, undef, undef, undef, undef, undef, undef, undef, undef, undef, undef, undef, undef, undef, undef, undef, undef, undef, undef, undef, undef, undef, undef, undef, undef, undef, undef, undef, undef, undef, undef, undef, undef, undef, undef, undef, undef, undef, undef, undef, undef, undef, undef, undef, undef, undef, undef, .int .i64 (j : Int), .slice l4 n4 k4, .int .i64 (n4 : Int), .bool true, .int .i64 (j : Int), .int .i64 ((j + 1 : Nat) : Int), .slice l4 n4 k4, .int .i64 (j : Int), .pointer (some ⟨b4, (o4 + j * 6), none⟩), .pointer (some ⟨b4, ((o4 + j * 6) + 0), none⟩), .bool false, .slice l4 n4 k4, .int .i64 (j : Int), .pointer (some ⟨b4, (o4 + j * 6), none⟩), .pointer (some ⟨b4, ((o4 + j * 6) + 1), none⟩), .bool ((Cf j)), .bool false, v2 106, v2 107, v2 108, v2 109, v2 110, v2 111, v2 112, v2 113, v2 114, v2 115, v2 116, v2 117, v2 118, v2 119, v2 120, v2 121, v2 122, v2 123, v2 124, v2 125, v2 126, v2 127, v2 128, v2 129, v2 130, v2 131, v2 132, v2 133, v2 134, v2 135, v2 136, v2 137, v2 138, v2 139, v2 140, v2 141, v2 142, v2 143, .int .i64 0, .int .i64 1, .pointer (some ⟨g3, 1, none⟩), .slice (some ⟨g9, 0, none⟩) nb cap9, .slice (some ⟨g9, 0, none⟩) nb cap9, .int .i64 ((nb : Nat) : Int), .bool false, .slice l4 n4 k4, .int .i64 (j : Int), .pointer (some ⟨b4, (o4 + j * 6), none⟩), .pointer (some ⟨b4, ((o4 + j * 6) + 3), none⟩), .int .u8 ((Wh j : Nat) : Int), .int .i64 ((Wh j : Nat) : Int), .slice (some ⟨g9, 0, none⟩) nb cap9, .int .i64 ((nb : Nat) : Int), .int .i64 (r : Int), .slice (some ⟨g9, 0, none⟩) nb cap9, .int .i64 (r : Int), .pointer (some ⟨g9, (0 + r * 4), none⟩), .agg (av 4 (ls [.int .u64 (r : Int), .string cc, .string (Xb r), .int .i64 (cn qa r)])), .pointer (some ⟨g4, 1, none⟩), .string cc, .slice (some ⟨g5, 0, none⟩) cc.size cp8, .slice (some ⟨g5, 0, none⟩) cc.size cp8, .slice l4 n4 k4, .int .i64 (j : Int), .pointer (some ⟨b4, (o4 + j * 6), none⟩), .pointer (some ⟨b4, ((o4 + j * 6) + 4), none⟩), .int .u16 ((At j : Nat) : Int), .int .i64 ((At j : Nat) : Int), .slice (some ⟨g5, 0, none⟩) cc.size cp8, .int .i64 ((cc.size : Nat) : Int), .int .i64 (kk : Int), .slice (some ⟨g5, 0, none⟩) cc.size cp8, .slice l4 n4 k4, .int .i64 (j : Int), .pointer (some ⟨b4, (o4 + j * 6), none⟩), .pointer (some ⟨b4, ((o4 + j * 6) + 4), none⟩), .int .u16 ((At j : Nat) : Int), .int .i64 ((At j : Nat) : Int), .slice (some ⟨g5, 0, none⟩) cc.size cp8, .int .i64 ((cc.size : Nat) : Int), .int .i64 (kk : Int), .pointer (some ⟨g5, kk, none⟩), .int .u8 (bt cc kk), .slice l4 n4 k4, .int .i64 (j : Int), .pointer (some ⟨b4, (o4 + j * 6), none⟩), .pointer (some ⟨b4, ((o4 + j * 6) + 5), none⟩), .int .u8 ((Tn j : Nat) : Int), .int .u8 (xb (bt cc kk) ((Tn j : Nat) : Int)), .pointer (some ⟨g5, kk, none⟩), .tuple #[.string (Xb r), .int .i64 0], .int .i64 0, .pointer (some ⟨g2, 0, none⟩), .pointer (some ⟨pa, 0, none⟩), .pointer (some ⟨g4, 0, none⟩), .int .u64 (r : Int), .slice (some ⟨g5, 0, none⟩) cc.size cp8, .string (tuB cc kk ((Tn j : Nat) : Int)), .tuple #[.string (Xb r), .int .i64 0], .string (Xb r), .int .i64 0, .slice l4 n4 k4, .int .i64 (j : Int), .pointer (some ⟨b4, (o4 + j * 6), none⟩), .pointer (some ⟨b4, ((o4 + j * 6) + 5), none⟩), .int .u8 ((Tn j : Nat) : Int), .bool false, v2 213, v2 214, v2 215, .int .i64 0, .bool true, .pointer (some ⟨g4, 3, none⟩), .int .i64 0, .bool true, .bool false, .bool false, .int .i64 0, .bool true, .bool true, .string (Xb r), .pointer (some ⟨g4, 2, none⟩), .string (Xb r), .bool false, .bool false, .bool false, .int .i64 0, .bool true, .int .i64 0, .int .i64 1, .pointer (some ⟨g3, 1, none⟩), .slice (some ⟨g9, 0, none⟩) nb cap9, .int .i64 (r : Int), .pointer (some ⟨g9, (0 + r * 4), none⟩), .pointer (some ⟨g9, ((0 + r * 4) + 3), none⟩), .int .i64 0, .int .i64 1, .pointer (some ⟨g9, (0 + r * 4), none⟩), .pointer (some ⟨g9, ((0 + r * 4) + 3), none⟩)] : List Value).getD (k_ - 4) undef, na, nb, Xa, Xb, (qa ++ [r]), qb, sub, sv0, _, Y2, Tb, T0, [⟨g9, ZB⟩], by kernel_rfl, (M.drop (.cons _ (.cons _ (.cons_cons _ (.cons_cons _ (List.Sublist.refl _)))))), J2, Hb, hs0, ⟨by rw [sL_len], .inr ⟨g9, cap9, ZB, hn_g9, rfl, hle_g9, hZB, rfl⟩⟩, by omega, by omega, in_app hqa hr, hqb, hXa, hXb⟩
            ·refine au_then <| wp_seq ?_
             refine rg_held M [⟨g5, ZA⟩, ⟨g4, .cells (av 4 (ls [.int .u64 (r : Int), .string cc, .string (Xb r), .int .i64 (cn qa r)])) 43⟩, ⟨g3, .cells (av 2 (ls [sv0, .slice (some ⟨g9, 0, none⟩) nb cap9])) 38⟩, ⟨g2, .cells (av 2 (ls [.pointer (some ⟨pa, 0, none⟩), .pointer (some ⟨pb, 0, none⟩)])) 30⟩] 12 rfl (by kernel_rfl) (by kernel_rfl) (fun _ _ d _ _ h => by cases d <;> exact h) fun u14 M => ?_
             replace M : Mem ⟨w, []⟩ (⟨g5, ZA⟩ :: ⟨g4, .cells (av 4 (ls [.int .u64 (r : Int), .string cc, .string (Xb r), .int .i64 (cn qa r)])) 43⟩ :: ⟨g3, .cells (av 2 (ls [sv0, .slice (some ⟨g9, 0, none⟩) nb cap9])) 38⟩ :: ⟨g2, .cells (av 2 (ls [.pointer (some ⟨pa, 0, none⟩), .pointer (some ⟨pb, 0, none⟩)])) 30⟩ :: (Tb ++ (Ta ++ (T0 ++ [⟨g9, Z9⟩])))) u14 := M
             refine qV (M.drop (.cons_cons _ (.cons_cons _ (.cons_cons _ (.cons_cons _ (List.nil_sublist _)))))) 0 197 (.int .i64 0) ?_
             refine qV (M.drop (.cons_cons _ (.cons_cons _ (.cons_cons _ (.cons_cons _ (List.nil_sublist _)))))) 1 198 (.pointer (some ⟨g2, 0, none⟩)) ?_
             refine hl_cell (M.drop (.cons_cons _ (.cons_cons _ (.cons_cons _ (.cons_cons _ (List.nil_sublist _)))))) 2 rfl (by decide) (by kernel_rfl) (by kernel_rfl) (want_no rfl) (some 199) rfl 29 _ rfl g2 0 (by kernel_rfl) (.pointer (some ⟨pa, 0, none⟩)) (fun _ => by kernel_rfl) (fun w M => M.cell 3 rfl (by decide) rfl) ?_
             refine qV (M.drop (.cons_cons _ (.cons_cons _ (.cons_cons _ (.cons_cons _ (List.nil_sublist _)))))) 3 200 (.pointer (some ⟨g4, 0, none⟩)) ?_
             refine hl_cell (M.drop (.cons_cons _ (.cons_cons _ (.cons_cons _ (.cons_cons _ (List.nil_sublist _)))))) 4 rfl (by decide) (by kernel_rfl) (by kernel_rfl) (want_no rfl) (some 201) rfl 33 _ rfl g4 0 (by kernel_rfl) (.int .u64 (r : Int)) (fun _ => by kernel_rfl) (fun w M => M.cell 1 rfl (by decide) rfl) ?_
             refine qV (M.drop (.cons_cons _ (.cons_cons _ (.cons_cons _ (.cons_cons _ (List.nil_sublist _)))))) 5 202 (.slice (some ⟨g5, 0, none⟩) cc.size cp8) ?_
             refine hl_one 6 (by decide) (by kernel_rfl) rfl ?_
             refine pl_back M (want_no rfl) (some 203) rfl _ rfl 0 g5 cc.size cp8 (by kernel_rfl) _ rfl ((sb cc).set kk (xb (bt cc kk) ((Tn j : Nat) : Int))) cp8 hZA (by rw [List.length_set, sb_length]) (fun y hy => by rw [← tuB_sb] at hy; exact sb_nn _ y hy) ?_
             refine nT ?_
             refine ⟨(M.drop (.cons_cons _ (.cons_cons _ (.cons_cons _ (.cons_cons _ (List.nil_sublist _)))))), ?_⟩
             refine hl_one 7 (by decide) (by kernel_rfl) rfl ?_
             refine pl_callM M (want_no rfl) (some 204) rfl 10 #[.pointer (some ⟨pa, 0, none⟩), .int .u64 0, .int .u64 (r : Int), .string (tuB cc kk ((Tn j : Nat) : Int))] (⟨g5, ZA⟩ :: ⟨g4, .cells (av 4 (ls [.int .u64 (r : Int), .string cc, .string (Xb r), .int .i64 (cn qa r)])) 43⟩ :: ⟨g3, .cells (av 2 (ls [sv0, .slice (some ⟨g9, 0, none⟩) nb cap9])) 38⟩ :: ⟨g2, .cells (av 2 (ls [.pointer (some ⟨pa, 0, none⟩), .pointer (some ⟨pb, 0, none⟩)])) 30⟩ :: Tb) (Ta) ((T0 ++ [⟨g9, Z9⟩])) (by simp only [List.append_assoc, List.cons_append, List.nil_append, List.append_nil]) (fun T0 => .tuple #[.string (TS.oC (tsA KA KB na qa) 0 r (tuB cc kk ((Tn j : Nat) : Int))), .int .i64 (TS.oE (tsA KA KB na qa) 0 r (tuB cc kk ((Tn j : Nat) : Int)))]) (fun T0 => T0) (fun T0 => IsT pa (TS.oX (tsA KA KB na qa) 0 r (tuB cc kk ((Tn j : Nat) : Int))) T0) (fun _ => by kernel_rfl) (fun w hL hT => a_Open Ha (okS (by omega)) (by decide) (by omega) w hL hT) ?_
             rintro Y2 u15 J2 M
             replace M : Mem ⟨w, []⟩ (⟨g5, ZA⟩ :: ⟨g4, .cells (av 4 (ls [.int .u64 (r : Int), .string cc, .string (Xb r), .int .i64 (cn qa r)])) 43⟩ :: ⟨g3, .cells (av 2 (ls [sv0, .slice (some ⟨g9, 0, none⟩) nb cap9])) 38⟩ :: ⟨g2, .cells (av 2 (ls [.pointer (some ⟨pa, 0, none⟩), .pointer (some ⟨pb, 0, none⟩)])) 30⟩ :: (Tb ++ (Y2 ++ (T0 ++ [⟨g9, Z9⟩])))) u15 := by simpa only [List.append_assoc, List.cons_append, List.nil_append, List.append_nil] using M
             refine nT ?_
             refine ⟨(M.drop (.cons_cons _ (.cons_cons _ (.cons_cons _ (.cons_cons _ (List.nil_sublist _)))))), ?_⟩
             refine qV (M.drop (.cons_cons _ (.cons_cons _ (.cons_cons _ (.cons_cons _ (List.nil_sublist _)))))) 8 196 (.tuple #[.string (TS.oC (tsA KA KB na qa) 0 r (tuB cc kk ((Tn j : Nat) : Int))), .int .i64 (TS.oE (tsA KA KB na qa) 0 r (tuB cc kk ((Tn j : Nat) : Int)))]) ?_
             refine qV (M.drop (.cons_cons _ (.cons_cons _ (.cons_cons _ (.cons_cons _ (List.nil_sublist _)))))) 9 205 (.string (TS.oC (tsA KA KB na qa) 0 r (tuB cc kk ((Tn j : Nat) : Int)))) ?_
             refine qV (M.drop (.cons_cons _ (.cons_cons _ (.cons_cons _ (.cons_cons _ (List.nil_sublist _)))))) 10 206 (.int .i64 (TS.oE (tsA KA KB na qa) 0 r (tuB cc kk ((Tn j : Nat) : Int)))) ?_
             refine qV (M.drop (.cons_cons _ (.cons_cons _ (.cons_cons _ (.cons_cons _ (List.nil_sublist _)))))) 11 20 (.string (TS.oC (tsA KA KB na qa) 0 r (tuB cc kk ((Tn j : Nat) : Int)))) ?_
             refine hl_end (by kernel_rfl) (by kernel_rfl) rfl ?_
             refine rV 1 <| nT <| au_then <| wp_seq <| sR ?_
             refine rV 2 ?_
             refine pH 209 (.pointer (some ⟨b4, (o4 + j * 6), none⟩)) (run_ixK 24 27 6 Tryz.underlying24 inz27 _ _ rfl l4 b4 o4 n4 k4 (by kernel_rfl) (hl1 (by omega)) .i64 j (by kernel_rfl) (by omega)) ?_
             refine rV 1 ?_
             refine pE M 211 b4 ((o4 + j * 6) + 5) (.int .u8 ((Tn j : Nat) : Int)) (fun w M => M.oldc (h5 j (by omega)) (by simp)) ?_
             refine pH 212 (.bool true) (jU (((Tn j : Nat) : Int) = 0) (c9)) ?_
             refine nT <| cT <| wp_seq <| sR <| rV 1 ?_
             by_cases c10 : (TS.oE (tsA KA KB na qa) 0 r (tuB cc kk ((Tn j : Nat) : Int))) = 0
             ·refine pH 214 (.bool true) (jT ((TS.oE (tsA KA KB na qa) 0 r (tuB cc kk ((Tn j : Nat) : Int))) = 0) (c10)) ?_
              refine nT <| cT <| sR ?_
              refine ZC M 215 (fun w M => c_speaks w M.laid) fun u16 M => ?_
              refine rV 1 <| nT <| wp_ret <| au_then_ret <| au_then_ret ?_
              refine au_block_ret ?_
              refine au_then_ret <| au_then_ret ?_
              refine au_block_ret ?_
              refine au_then_ret ?_
              exact b1 M
             ·refine pH 214 (.bool false) (jF ((TS.oE (tsA KA KB na qa) 0 r (tuB cc kk ((Tn j : Nat) : Int))) = 0) (c10)) ?_
              refine pl_nil ?_
              rw [oX_no c10] at J2
              refine au_then <| cF <| wp_skip <| au_then ?_
              refine wp_exit ?_
              refine au_then_exit ?_
              refine au_block_exit ?_
              refine au_then ?_
              refine rg_lit ?_
              refine rV 1 ?_
              refine pH 94 (.int .i64 ((j + 1 : Nat) : Int)) (fun w => Eq.trans (b := .ok (.value (.int .i64 (IntKind.wrap .i64 ((j : Int) + 1)))) w) (by kernel_rfl) (by rw [wrap64 (by omega) (by omega)]; rfl)) ?_
              refine rV 1 <| nT ?_
              exact ⟨fun k_ => ([v2 4, undef, undef, undef, undef, undef, undef, undef, .int .i64 0, v2 13, v2 14, v2 15, .slice (some ⟨g9, 0, none⟩) nb cap9, .int .i64 (r : Int), .pointer (some ⟨g4, 0, none⟩), .slice (some ⟨g5, 0, none⟩) cc.size cp8, .string (TS.oC (tsA KA KB na qa) 0 r (tuB cc kk ((Tn j : Nat) : Int))), .int .i64 (TS.oE (tsA KA KB na qa) 0 r (tuB cc kk ((Tn j : Nat) : Int))), undef, undef, undef, undef, undef, undef, undef, undef, undef, undef, undef, undef, undef, undef, undef, undef, undef, undef, undef, undef, undef, undef, undef, undef, undef, undef, undef, undef, undef, undef, undef, undef, undef, undef, undef, undef, undef, undef, undef, undef, undef, undef, undef, undef, undef, undef, undef, undef, undef, undef, undef, undef, undef, undef, undef, undef, undef, undef, undef, undef, undef, undef, undef, undef, undef, undef, undef, .int .i64 (j : Int), .slice l4 n4 k4, .int .i64 (n4 : Int), .bool true, .int .i64 (j : Int), .int .i64 ((j + 1 : Nat) : Int), .slice l4 n4 k4, .int .i64 (j : Int), .pointer (some ⟨b4, (o4 + j * 6), none⟩), .pointer (some ⟨b4, ((o4 + j * 6) + 0), none⟩), .bool false, .slice l4 n4 k4, .int .i64 (j : Int), .pointer (some ⟨b4, (o4 + j * 6), none⟩), .pointer (some ⟨b4, ((o4 + j * 6) + 1), none⟩), .bool ((Cf j)), .bool false, v2 106, v2 107, v2 108, v2 109, v2 110, v2 111, v2 112, v2 113, v2 114, v2 115, v2 116, v2 117, v2 118, v2 119, v2 120, v2 121, v2 122, v2 123, v2 124, v2 125, v2 126, v2 127, v2 128, v2 129, v2 130, v2 131, v2 132, v2 133, v2 134, v2 135, v2 136, v2 137, v2 138, v2 139, v2 140, v2 141, v2 142, v2 143, .int .i64 0, .int .i64 1, .pointer (some ⟨g3, 1, none⟩), .slice (some ⟨g9, 0, none⟩) nb cap9, .slice (some ⟨g9, 0, none⟩) nb cap9, .int .i64 ((nb : Nat) : Int), .bool false, .slice l4 n4 k4, .int .i64 (j : Int), .pointer (some ⟨b4, (o4 + j * 6), none⟩), .pointer (some ⟨b4, ((o4 + j * 6) + 3), none⟩), .int .u8 ((Wh j : Nat) : Int), .int .i64 ((Wh j : Nat) : Int), .slice (some ⟨g9, 0, none⟩) nb cap9, .int .i64 ((nb : Nat) : Int), .int .i64 (r : Int), .slice (some ⟨g9, 0, none⟩) nb cap9, .int .i64 (r : Int), .pointer (some ⟨g9, (0 + r * 4), none⟩), .agg (av 4 (ls [.int .u64 (r : Int), .string cc, .string (Xb r), .int .i64 (cn qa r)])), .pointer (some ⟨g4, 1, none⟩), .string cc, .slice (some ⟨g5, 0, none⟩) cc.size cp8, .slice (some ⟨g5, 0, none⟩) cc.size cp8, .slice l4 n4 k4, .int .i64 (j : Int), .pointer (some ⟨b4, (o4 + j * 6), none⟩), .pointer (some ⟨b4, ((o4 + j * 6) + 4), none⟩), .int .u16 ((At j : Nat) : Int), .int .i64 ((At j : Nat) : Int), .slice (some ⟨g5, 0, none⟩) cc.size cp8, .int .i64 ((cc.size : Nat) : Int), .int .i64 (kk : Int), .slice (some ⟨g5, 0, none⟩) cc.size cp8, .slice l4 n4 k4, .int .i64 (j : Int), .pointer (some ⟨b4, (o4 + j * 6), none⟩), .pointer (some ⟨b4, ((o4 + j * 6) + 4), none⟩), .int .u16 ((At j : Nat) : Int), .int .i64 ((At j : Nat) : Int), .slice (some ⟨g5, 0, none⟩) cc.size cp8, .int .i64 ((cc.size : Nat) : Int), .int .i64 (kk : Int), .pointer (some ⟨g5, kk, none⟩), .int .u8 (bt cc kk), .slice l4 n4 k4, .int .i64 (j : Int), .pointer (some ⟨b4, (o4 + j * 6), none⟩), .pointer (some ⟨b4, ((o4 + j * 6) + 5), none⟩), .int .u8 ((Tn j : Nat) : Int), .int .u8 (xb (bt cc kk) ((Tn j : Nat) : Int)), .pointer (some ⟨g5, kk, none⟩), .tuple #[.string (TS.oC (tsA KA KB na qa) 0 r (tuB cc kk ((Tn j : Nat) : Int))), .int .i64 (TS.oE (tsA KA KB na qa) 0 r (tuB cc kk ((Tn j : Nat) : Int)))], .int .i64 0, .pointer (some ⟨g2, 0, none⟩), .pointer (some ⟨pa, 0, none⟩), .pointer (some ⟨g4, 0, none⟩), .int .u64 (r : Int), .slice (some ⟨g5, 0, none⟩) cc.size cp8, .string (tuB cc kk ((Tn j : Nat) : Int)), .tuple #[.string (TS.oC (tsA KA KB na qa) 0 r (tuB cc kk ((Tn j : Nat) : Int))), .int .i64 (TS.oE (tsA KA KB na qa) 0 r (tuB cc kk ((Tn j : Nat) : Int)))], .string (TS.oC (tsA KA KB na qa) 0 r (tuB cc kk ((Tn j : Nat) : Int))), .int .i64 (TS.oE (tsA KA KB na qa) 0 r (tuB cc kk ((Tn j : Nat) : Int))), .slice l4 n4 k4, .int .i64 (j : Int), .pointer (some ⟨b4, (o4 + j * 6), none⟩), .pointer (some ⟨b4, ((o4 + j * 6) + 5), none⟩), .int .u8 ((Tn j : Nat) : Int), .bool true, .int .i64 (TS.oE (tsA KA KB na qa) 0 r (tuB cc kk ((Tn j : Nat) : Int))), .bool false, v2 215, v2 216, v2 217, v2 218, v2 219, v2 220, v2 221, v2 222, v2 223, v2 224, v2 225, v2 226, v2 227, v2 228, v2 229, v2 230, v2 231, v2 232, v2 233, v2 234, v2 235, v2 236, v2 237, v2 238, v2 239, v2 240, v2 241, v2 242, v2 243, v2 244] : List Value).getD (k_ - 4) undef, na, nb, Xa, Xb, qa, qb, sub, sv0, _, Y2, Tb, T0, [⟨g9, Z9⟩], by kernel_rfl, (M.drop (.cons _ (.cons _ (.cons_cons _ (.cons_cons _ (List.Sublist.refl _)))))), J2, Hb, hs0, hSk, by omega, by omega, hqa, hqb, hXa, hXb⟩
          ·refine pH 105 (.bool true) (fun w => Eq.trans (b := .ok (.value (.bool (!(Cf j)))) w) (by kernel_rfl) (by rw [c7]; rfl)) ?_
           refine nT <| cT <| wp_seq ?_
           refine rg_held M [⟨g3, .cells (av 2 (ls [sv0, sv1])) 38⟩, ⟨g2, .cells (av 2 (ls [.pointer (some ⟨pa, 0, none⟩), .pointer (some ⟨pb, 0, none⟩)])) 30⟩] 15 rfl (by kernel_rfl) (by kernel_rfl) (fun _ _ d _ _ h => by cases d <;> exact h) fun u9 M => ?_
           replace M : Mem ⟨w, []⟩ (⟨g3, .cells (av 2 (ls [sv0, sv1])) 38⟩ :: ⟨g2, .cells (av 2 (ls [.pointer (some ⟨pa, 0, none⟩), .pointer (some ⟨pb, 0, none⟩)])) 30⟩ :: (Tb ++ (Ta ++ (T0 ++ T1)))) u9 := M
           refine qV (M.drop (.cons_cons _ (.cons_cons _ (List.nil_sublist _)))) 0 107 (.int .i64 0) ?_
           refine qV (M.drop (.cons_cons _ (.cons_cons _ (List.nil_sublist _)))) 1 108 (.pointer (some ⟨g2, 0, none⟩)) ?_
           refine hl_cell (M.drop (.cons_cons _ (.cons_cons _ (List.nil_sublist _)))) 2 rfl (by decide) (by kernel_rfl) (by kernel_rfl) (want_no rfl) (some 109) rfl 29 _ rfl g2 0 (by kernel_rfl) (.pointer (some ⟨pa, 0, none⟩)) (fun _ => by kernel_rfl) (fun w M => M.cell 1 rfl (by decide) rfl) ?_
           refine qV (M.drop (.cons_cons _ (.cons_cons _ (List.nil_sublist _)))) 3 110 (.slice l4 n4 k4) ?_
           refine qV (M.drop (.cons_cons _ (.cons_cons _ (List.nil_sublist _)))) 4 111 (.int .i64 (j : Int)) ?_
           refine hl_val (M.drop (.cons_cons _ (.cons_cons _ (List.nil_sublist _)))) 5 rfl (by decide) (by kernel_rfl) (by kernel_rfl) (want_no rfl) (some 112) rfl (.pointer (some ⟨b4, (o4 + j * 6), none⟩)) (fun w _ => (run_ixK 24 27 6 Tryz.underlying24 inz27 _ _ rfl l4 b4 o4 n4 k4 (by kernel_rfl) (hl1 (by omega)) .i64 j (by kernel_rfl) (by omega)) w) ?_
           refine qV (M.drop (.cons_cons _ (.cons_cons _ (List.nil_sublist _)))) 6 113 (.pointer (some ⟨b4, ((o4 + j * 6) + 2), none⟩)) ?_
           refine hl_cell (M.drop (.cons_cons _ (.cons_cons _ (List.nil_sublist _)))) 7 rfl (by decide) (by kernel_rfl) (by kernel_rfl) (want_no rfl) (some 114) rfl 9 _ rfl b4 ((o4 + j * 6) + 2) (by kernel_rfl) (.string (Y j)) (fun _ => by kernel_rfl) (fun w M => M.oldc (h2 j (by omega)) (by simp)) ?_
           refine hl_one 8 (by decide) (by kernel_rfl) rfl ?_
           refine pl_callM M (want_no rfl) (some 115) rfl 8 #[.pointer (some ⟨pa, 0, none⟩), .int .u64 0, .string (Y j)] (⟨g3, .cells (av 2 (ls [sv0, sv1])) 38⟩ :: ⟨g2, .cells (av 2 (ls [.pointer (some ⟨pa, 0, none⟩), .pointer (some ⟨pb, 0, none⟩)])) 30⟩ :: Tb) (Ta) ((T0 ++ T1)) (by simp only [List.append_assoc, List.cons_append, List.nil_append, List.append_nil]) (fun T0 => .tuple #[.int .u64 (na : Int), .string (sealS KA (nS (na : Int)) ⟨#[]⟩ (Y j)), .int .i64 0]) (fun T0 => T0) (fun T0 => IsT pa (tsA KA KB (na + 1) qa) T0) (fun _ => by kernel_rfl) (fun w hL hT => s_ok Ha (okS (by omega)) (by decide) hKA (show (0 : Nat) - 0 < 20 by decide) (show na < 50 by omega) rfl (by omega) w hL hT) ?_
           rintro Y1 u10 J1 M
           replace M : Mem ⟨w, []⟩ (⟨g3, .cells (av 2 (ls [sv0, sv1])) 38⟩ :: ⟨g2, .cells (av 2 (ls [.pointer (some ⟨pa, 0, none⟩), .pointer (some ⟨pb, 0, none⟩)])) 30⟩ :: (Tb ++ (Y1 ++ (T0 ++ T1)))) u10 := by simpa only [List.append_assoc, List.cons_append, List.nil_append, List.append_nil] using M
           refine nT ?_
           refine ⟨(M.drop (.cons_cons _ (.cons_cons _ (List.nil_sublist _)))), ?_⟩
           refine qV (M.drop (.cons_cons _ (.cons_cons _ (List.nil_sublist _)))) 9 106 (.tuple #[.int .u64 (na : Int), .string (sealS KA (nS (na : Int)) ⟨#[]⟩ (Y j)), .int .i64 0]) ?_
           refine qV (M.drop (.cons_cons _ (.cons_cons _ (List.nil_sublist _)))) 10 116 (.int .u64 (na : Int)) ?_
           refine qV (M.drop (.cons_cons _ (.cons_cons _ (List.nil_sublist _)))) 11 117 (.string (sealS KA (nS (na : Int)) ⟨#[]⟩ (Y j))) ?_
           refine qV (M.drop (.cons_cons _ (.cons_cons _ (List.nil_sublist _)))) 12 118 (.int .i64 0) ?_
           refine qV (M.drop (.cons_cons _ (.cons_cons _ (List.nil_sublist _)))) 13 13 (.int .u64 (na : Int)) ?_
           refine qV (M.drop (.cons_cons _ (.cons_cons _ (List.nil_sublist _)))) 14 14 (.string (sealS KA (nS (na : Int)) ⟨#[]⟩ (Y j))) ?_
           refine hl_end (by kernel_rfl) (by kernel_rfl) rfl ?_
           refine rV 1 <| nT <| au_then <| wp_seq <| sq ?_
           refine cT ?_
           refine rg_held M [⟨g3, .cells (av 2 (ls [sv0, sv1])) 38⟩, ⟨g2, .cells (av 2 (ls [.pointer (some ⟨pa, 0, none⟩), .pointer (some ⟨pb, 0, none⟩)])) 30⟩] 15 rfl (by kernel_rfl) (by kernel_rfl) (fun _ _ d _ _ h => by cases d <;> exact h) fun u11 M => ?_
           replace M : Mem ⟨w, []⟩ (⟨g3, .cells (av 2 (ls [sv0, sv1])) 38⟩ :: ⟨g2, .cells (av 2 (ls [.pointer (some ⟨pa, 0, none⟩), .pointer (some ⟨pb, 0, none⟩)])) 30⟩ :: (Tb ++ (Y1 ++ (T0 ++ T1)))) u11 := M
           refine qV (M.drop (.cons_cons _ (.cons_cons _ (List.nil_sublist _)))) 0 121 (.int .i64 0) ?_
           refine qV (M.drop (.cons_cons _ (.cons_cons _ (List.nil_sublist _)))) 1 122 (.int .i64 0) ?_
           refine qV (M.drop (.cons_cons _ (.cons_cons _ (List.nil_sublist _)))) 2 123 (.pointer (some ⟨g3, 0, none⟩)) ?_
           refine hl_cell (M.drop (.cons_cons _ (.cons_cons _ (List.nil_sublist _)))) 3 rfl (by decide) (by kernel_rfl) (by kernel_rfl) (want_no rfl) (some 124) rfl 37 _ rfl g3 0 (by kernel_rfl) (sv0) (fun _ => by kernel_rfl) (fun w M => M.cell 0 rfl (by decide) rfl) ?_
           refine qV (M.drop (.cons_cons _ (.cons_cons _ (List.nil_sublist _)))) 4 125 (.int .u64 (na : Int)) ?_
           refine qV (M.drop (.cons_cons _ (.cons_cons _ (List.nil_sublist _)))) 5 126 (.string (sealS KA (nS (na : Int)) ⟨#[]⟩ (Y j))) ?_
           refine qV (M.drop (.cons_cons _ (.cons_cons _ (List.nil_sublist _)))) 6 127 (.slice l4 n4 k4) ?_
           refine qV (M.drop (.cons_cons _ (.cons_cons _ (List.nil_sublist _)))) 7 128 (.int .i64 (j : Int)) ?_
           refine hl_val (M.drop (.cons_cons _ (.cons_cons _ (List.nil_sublist _)))) 8 rfl (by decide) (by kernel_rfl) (by kernel_rfl) (want_no rfl) (some 129) rfl (.pointer (some ⟨b4, (o4 + j * 6), none⟩)) (fun w _ => (run_ixK 24 27 6 Tryz.underlying24 inz27 _ _ rfl l4 b4 o4 n4 k4 (by kernel_rfl) (hl1 (by omega)) .i64 j (by kernel_rfl) (by omega)) w) ?_
           refine qV (M.drop (.cons_cons _ (.cons_cons _ (List.nil_sublist _)))) 9 130 (.pointer (some ⟨b4, ((o4 + j * 6) + 2), none⟩)) ?_
           refine hl_cell (M.drop (.cons_cons _ (.cons_cons _ (List.nil_sublist _)))) 10 rfl (by decide) (by kernel_rfl) (by kernel_rfl) (want_no rfl) (some 131) rfl 9 _ rfl b4 ((o4 + j * 6) + 2) (by kernel_rfl) (.string (Y j)) (fun _ => by kernel_rfl) (fun w M => M.oldc (h2 j (by omega)) (by simp)) ?_
           refine qV (M.drop (.cons_cons _ (.cons_cons _ (List.nil_sublist _)))) 11 132 (.agg (av 4 (ls [.int .u64 (na : Int), .string (sealS KA (nS (na : Int)) ⟨#[]⟩ (Y j)), .string (Y j), .int .i64 0]))) ?_
           refine hl_one 12 (by decide) (by kernel_rfl) rfl ?_
           refine ZM M 133 (fun g4 => .slice (some ⟨g4, 0, none⟩) 1 1) (.cells (av 4 (ls [.int .u64 (na : Int), .string (sealS KA (nS (na : Int)) ⟨#[]⟩ (Y j)), .string (Y j), .int .i64 0])) 43) fun g4 u12 M => ?_
           replace M := M.front
           replace M : Mem ⟨w, []⟩ (⟨g4, .cells (av 4 (ls [.int .u64 (na : Int), .string (sealS KA (nS (na : Int)) ⟨#[]⟩ (Y j)), .string (Y j), .int .i64 0])) 43⟩ :: ⟨g3, .cells (av 2 (ls [sv0, sv1])) 38⟩ :: ⟨g2, .cells (av 2 (ls [.pointer (some ⟨pa, 0, none⟩), .pointer (some ⟨pb, 0, none⟩)])) 30⟩ :: (Tb ++ (Y1 ++ (T0 ++ T1)))) u12 := M
           refine nT ?_
           refine ⟨(M.drop (.cons _ (.cons_cons _ (.cons_cons _ (List.nil_sublist _))))), ?_⟩
           refine hl_one 13 (by decide) (by kernel_rfl) rfl ?_
           refine pl_appS M (want_no rfl) (some 134) rfl 37 37 43 4 (.agg #[.int .u64 0, .string ⟨#[]⟩, .string ⟨#[]⟩, .int .i64 0]) Tryz.underlying37 infoS rfl (⟨g4, .cells (av 4 (ls [.int .u64 (na : Int), .string (sealS KA (nS (na : Int)) ⟨#[]⟩ (Y j)), .string (Y j), .int .i64 0])) 43⟩ :: ⟨g3, .cells (av 2 (ls [sv0, sv1])) 38⟩ :: ⟨g2, .cells (av 2 (ls [.pointer (some ⟨pa, 0, none⟩), .pointer (some ⟨pb, 0, none⟩)])) 30⟩ :: (Tb ++ Y1)) T0 T1 (by simp only [List.append_assoc, List.cons_append, List.nil_append, List.append_nil]) sv0 na (sL KA Xa qb na) hs0 (by omega) 0 g4 43 (ls [.int .u64 (na : Int), .string (sealS KA (nS (na : Int)) ⟨#[]⟩ (Y j)), .string (Y j), .int .i64 0]) rfl (one_ls _ rfl) (fun _ => by kernel_rfl) ?_
           intro sv2 T2 u13 hS2 M
           replace M : Mem ⟨w, []⟩ (⟨g4, .cells (av 4 (ls [.int .u64 (na : Int), .string (sealS KA (nS (na : Int)) ⟨#[]⟩ (Y j)), .string (Y j), .int .i64 0])) 43⟩ :: ⟨g3, .cells (av 2 (ls [sv0, sv1])) 38⟩ :: ⟨g2, .cells (av 2 (ls [.pointer (some ⟨pa, 0, none⟩), .pointer (some ⟨pb, 0, none⟩)])) 30⟩ :: (Tb ++ (Y1 ++ (T2 ++ T1)))) u13 := by simpa only [List.append_assoc, List.cons_append, List.nil_append, List.append_nil] using M
           refine nT ?_
           refine ⟨(M.drop (.cons _ (.cons_cons _ (.cons_cons _ (List.nil_sublist _))))), ?_⟩
           refine qV (M.drop (.cons _ (.cons_cons _ (.cons_cons _ (List.nil_sublist _))))) 14 135 (.pointer (some ⟨g3, 0, none⟩)) ?_
           refine hl_end (by kernel_rfl) (by kernel_rfl) rfl ?_
           refine (pl_put1 M (want_no rfl) rfl 37 _ _ rfl 1 g3 0 (by kernel_rfl) 2 38 (ls [sv0, sv1]) rfl (sv2) (ls [sv2, sv1]) (by kernel_rfl) inz37 (by decide) (slv_one hS2) (slv_cells hS2) (put_ls _ 0 _ _ rfl) ?_)
           intro u14 M
           replace M : Mem ⟨w, []⟩ (⟨g4, .cells (av 4 (ls [.int .u64 (na : Int), .string (sealS KA (nS (na : Int)) ⟨#[]⟩ (Y j)), .string (Y j), .int .i64 0])) 43⟩ :: ⟨g3, .cells (av 2 (ls [sv2, sv1])) 38⟩ :: ⟨g2, .cells (av 2 (ls [.pointer (some ⟨pa, 0, none⟩), .pointer (some ⟨pb, 0, none⟩)])) 30⟩ :: (Tb ++ (Y1 ++ (T2 ++ T1)))) u14 := M
           refine nT <| au_then ?_
           refine wp_exit ?_
           refine au_then_exit ?_
           refine au_block_exit ?_
           refine au_then ?_
           refine rg_lit ?_
           refine rV 1 ?_
           refine pH 94 (.int .i64 ((j + 1 : Nat) : Int)) (fun w => Eq.trans (b := .ok (.value (.int .i64 (IntKind.wrap .i64 ((j : Int) + 1)))) w) (by kernel_rfl) (by rw [wrap64 (by omega) (by omega)]; rfl)) ?_
           refine rV 1 <| nT ?_
           exact ⟨fun k_ => ([v2 4, undef, undef, undef, undef, undef, undef, undef, .int .i64 0, .int .u64 (na : Int), .string (sealS KA (nS (na : Int)) ⟨#[]⟩ (Y j)), .int .i64 0, v2 16, v2 17, v2 18, v2 19, v2 20, v2 21, undef, undef, undef, undef, undef, undef, undef, undef, undef, undef, undef, undef, undef, undef, undef, undef, undef, undef, undef, undef, undef, undef, undef, undef, undef, undef, undef, undef, undef, undef, undef, undef, undef, undef, undef, undef, undef, undef, undef, undef, undef, undef, undef, undef, undef, undef, undef, undef, undef, undef, undef, undef, undef, undef, undef, undef, undef, undef, undef, undef, undef, undef, undef, undef, undef, undef, undef, .int .i64 (j : Int), .slice l4 n4 k4, .int .i64 (n4 : Int), .bool true, .int .i64 (j : Int), .int .i64 ((j + 1 : Nat) : Int), .slice l4 n4 k4, .int .i64 (j : Int), .pointer (some ⟨b4, (o4 + j * 6), none⟩), .pointer (some ⟨b4, ((o4 + j * 6) + 0), none⟩), .bool false, .slice l4 n4 k4, .int .i64 (j : Int), .pointer (some ⟨b4, (o4 + j * 6), none⟩), .pointer (some ⟨b4, ((o4 + j * 6) + 1), none⟩), .bool ((Cf j)), .bool true, .tuple #[.int .u64 (na : Int), .string (sealS KA (nS (na : Int)) ⟨#[]⟩ (Y j)), .int .i64 0], .int .i64 0, .pointer (some ⟨g2, 0, none⟩), .pointer (some ⟨pa, 0, none⟩), .slice l4 n4 k4, .int .i64 (j : Int), .pointer (some ⟨b4, (o4 + j * 6), none⟩), .pointer (some ⟨b4, ((o4 + j * 6) + 2), none⟩), .string (Y j), .tuple #[.int .u64 (na : Int), .string (sealS KA (nS (na : Int)) ⟨#[]⟩ (Y j)), .int .i64 0], .int .u64 (na : Int), .string (sealS KA (nS (na : Int)) ⟨#[]⟩ (Y j)), .int .i64 0, .int .i64 0, .bool true, .int .i64 0, .int .i64 0, .pointer (some ⟨g3, 0, none⟩), sv0, .int .u64 (na : Int), .string (sealS KA (nS (na : Int)) ⟨#[]⟩ (Y j)), .slice l4 n4 k4, .int .i64 (j : Int), .pointer (some ⟨b4, (o4 + j * 6), none⟩), .pointer (some ⟨b4, ((o4 + j * 6) + 2), none⟩), .string (Y j), .agg (av 4 (ls [.int .u64 (na : Int), .string (sealS KA (nS (na : Int)) ⟨#[]⟩ (Y j)), .string (Y j), .int .i64 0])), .slice (some ⟨g4, 0, none⟩) 1 1, sv2, .pointer (some ⟨g3, 0, none⟩), v2 136, v2 137, v2 138, v2 139, v2 140, v2 141, v2 142, v2 143, v2 144, v2 145, v2 146, v2 147, v2 148, v2 149, v2 150, v2 151, v2 152, v2 153, v2 154, v2 155, v2 156, v2 157, v2 158, v2 159, v2 160, v2 161, v2 162, v2 163, v2 164, v2 165, v2 166, v2 167, v2 168, v2 169, v2 170, v2 171, v2 172, v2 173, v2 174, v2 175, v2 176, v2 177, v2 178, v2 179, v2 180, v2 181, v2 182, v2 183, v2 184, v2 185, v2 186, v2 187, v2 188, v2 189, v2 190, v2 191, v2 192, v2 193, v2 194, v2 195, v2 196, v2 197, v2 198, v2 199, v2 200, v2 201, v2 202, v2 203, v2 204, v2 205, v2 206, v2 207, v2 208, v2 209, v2 210, v2 211, v2 212, v2 213, v2 214, v2 215, v2 216, v2 217, v2 218, v2 219, v2 220, v2 221, v2 222, v2 223, v2 224, v2 225, v2 226, v2 227, v2 228, v2 229, v2 230, v2 231, v2 232, v2 233, v2 234, v2 235, v2 236, v2 237, v2 238, v2 239, v2 240, v2 241, v2 242, v2 243, v2 244] : List Value).getD (k_ - 4) undef, (na + 1), nb, (upd Xa na (Y j)), Xb, qa, qb, sub, sv2, sv1, Y1, Tb, T2, T1, by kernel_rfl, (M.drop (.cons _ (.cons_cons _ (.cons_cons _ (List.Sublist.refl _))))), J1, Hb, by rw [← sL_app hqb]; exact hS2, hs1, by omega, by omega, hqa, fun t ht => Nat.lt_succ_of_lt (hqb t ht), up_size hXa (by omega), hXb⟩
        ·intro a u0 hI
         obtain ⟨v2, na, nb, Xa, Xb, qa, qb, sub, sv0, sv1, Ta, Tb, T0, T1, rfl, M, Ha, Hb, hs0, hs1, hna, hnb, hqa, hqb, hXa, hXb⟩ := hI
         refine wp_seq <| sR <| rV 3 ?_
         refine ZF 92 ((n4 : Int) < (n4 : Int)) ?_
         refine nT <| cF ?_
         refine wp_exit ?_
         refine au_then_exit ?_
         refine au_then_exit ?_
         refine au_block_exit ?_
         refine au_then <| sR ?_
         refine ZC M 245 (fun w M => c_speaks w M.laid) fun u9 M => ?_
         refine rV 1 <| nT <| wp_ret ?_
         exact b1 M
       ·refine pl_val (want_on 25 false rfl 66 rfl (by kernel_rfl)) (some 70) rfl (.bool true) (fun w => Eq.trans (b := .ok (.value (.bool (!(decide ((yf.size : Int) = 32))))) w) (by kernel_rfl) (by rw [decide_eq_false (c5)]; rfl)) ?_
        refine rV 1 <| nT <| cT <| sR ?_
        refine ZC M 72 (fun w M => c_speaks w M.laid) fun u2 M => ?_
        refine rV 1 <| nT <| wp_ret <| au_then_ret ?_
        exact b1 M
      ·refine pl_val (want_on 19 false rfl 60 rfl (by kernel_rfl)) (some 64) rfl (.bool true) (fun w => Eq.trans (b := .ok (.value (.bool (!(decide ((ye.size : Int) = 32))))) w) (by kernel_rfl) (by rw [decide_eq_false (c4)]; rfl)) ?_
       refine rV 7 <| nT <| cT <| sR ?_
       refine ZC M 72 (fun w M => c_speaks w M.laid) fun u2 M => ?_
       refine rV 1 <| nT <| wp_ret <| au_then_ret ?_
       exact b1 M
     ·refine pl_val (want_on 13 false rfl 54 rfl (by kernel_rfl)) (some 58) rfl (.bool true) (fun w => Eq.trans (b := .ok (.value (.bool (!(decide ((yb.size : Int) = 32))))) w) (by kernel_rfl) (by rw [decide_eq_false (c3)]; rfl)) ?_
      refine rV 13 <| nT <| cT <| sR ?_
      refine ZC M 72 (fun w M => c_speaks w M.laid) fun u2 M => ?_
      refine rV 1 <| nT <| wp_ret <| au_then_ret ?_
      exact b1 M
    ·refine pl_val (want_on 7 false rfl 48 rfl (by kernel_rfl)) (some 52) rfl (.bool true) (fun w => Eq.trans (b := .ok (.value (.bool (!(decide ((ya.size : Int) = 32))))) w) (by kernel_rfl) (by rw [decide_eq_false (c2)]; rfl)) ?_
     refine rV 19 <| nT <| cT <| sR ?_
     refine ZC M 72 (fun w M => c_speaks w M.laid) fun u2 M => ?_
     refine rV 1 <| nT <| wp_ret <| au_then_ret ?_
     exact b1 M
open Go.ChangeShapes Go.WideShapes Go.ChangeAt Go.RowKit Go.Deep
theorem laidOut : laidOutB Tryz.prog = true := by kernel_rfl
theorem ownNone : ownKnob Tryz.prog.godebug = none := by kernel_rfl
section
variable {W : World} {b0 : Nat} {v : Value}
theorem cell_str (h : Cell.okWide Tryz.prog W .any b0 9 v) : ∃ s, v = .string s := by
 simp only [Cell.okWide, Tryz.underlying9] at h
 cases v <;> simp_all [Cell.ok, Tryz.underlying9]
theorem row_av (cs : Array Value) (l : List Value) (hs : cs.size = l.length) (h : ∀ i, i < l.length → cs[i]? = l[i]?) : cs = av l.length (ls l) := by
 apply Array.ext_getElem?
 intro i
 by_cases hi : i < l.length
 ·rw [h i hi, av_get _ _ _ hi]
  unfold ls
  rw [getD_app, List.getElem?_eq_getElem hi]
  rfl
 ·rw [Array.getElem?_eq_none (by omega), Array.getElem?_eq_none (by rw [av_size]; omega)]
end
theorem row_cells {W : World} {b0 : Nat} {t : TypeId} {v : Value} {fs : Array Field} {ts : List TypeId} (ht : Tryz.prog.underlying t = some (.struct fs)) (hc : Tryz.prog.cellTypes Tryz.prog.depth t = some ts) (hn : Tryz.prog.cellsOf t = ts.length) (h : Value.okWide Tryz.prog W .any b0 t v) : ∃ cs, v = .agg cs ∧ cs.size = ts.length ∧ ∀ (i : Nat) (u : TypeId), ts[i]? = some u → ∃ x, cs[i]? = some x ∧ Cell.okWide Tryz.prog W .any b0 u x := by
 simp only [Value.okWide, ht] at h
 obtain ⟨cs, rfl, h2, ts2, h3, _, h4⟩ := h
 rw [hc] at h3
 cases h3
 refine ⟨cs, rfl, by omega, fun i u hu => ?_⟩
 have hi := (List.getElem?_eq_some_iff.1 hu).1
 obtain ⟨u2, hu2, hx⟩ := h4 i cs[i] (Array.getElem?_eq_getElem (by omega))
 rw [Nat.mod_eq_of_lt hi, hu] at hu2
 cases hu2
 exact ⟨cs[i], Array.getElem?_eq_getElem (by omega), hx⟩
theorem wt_cons {H : Type} (P : Program) (t : TypeId) (ts : List TypeId) (d : DataW H) (r : List (DataW H)) (h : (DataW.weightsEach P (t :: ts) (d :: r)).all (· ≤ reachBytes) = true) : (d.weights P t).all (· ≤ reachBytes) = true ∧ (DataW.weightsEach P ts r).all (· ≤ reachBytes) = true := by
 simp only [DataW.weightsEach, List.all_append, Bool.and_eq_true] at h
 exact h
theorem wt_all {H : Type} (P : Program) (e : TypeId) : ∀ (l : List (DataW H)), (DataW.weightsAll P e l).all (· ≤ reachBytes) = true → ∀ d ∈ l, (d.weights P e).all (· ≤ reachBytes) = true
 | [], _, d, hd => by cases hd
 | x :: l, h, d, hd => by
  simp only [DataW.weightsAll, List.all_append, Bool.and_eq_true] at h
  rcases List.mem_cons.1 hd with rfl | hd
  ·exact h.1
  ·exact wt_all P e l h.2 d hd
theorem wt_text {H : Type} (P : Program) (t : TypeId) (s : Yb) (h : ((DataW.lit (.string s.data.toList) : DataW H).weights P t).all (· ≤ reachBytes) = true) : s.size ≤ 140737488351232 := by
 simp only [DataW.weights, List.all_cons, List.all_nil, Bool.and_true, reachBytes] at h
 have h1 := of_decide_eq_true h
 have e : s.data.toList.length = s.size := rfl
 omega
section
variable {H : Type} {enc : TypeId × Value → H}
theorem open_rows {T e : TypeId} {K : Nat} {W : World} {b0 : Nat} {v : Value} {d : DataW H} {p : List MemPlace} (ht : Tryz.prog.underlying T = some (.slice e)) (hK : Tryz.prog.cellsOf e = K) (h0 : 0 < K) (hval : Value.okWide Tryz.prog W .any b0 T v) (h : DataW.Trod enc Tryz.prog W 0 (fun _ => true) true T v d p) (hw : (d.weights Tryz.prog T).all (· ≤ reachBytes) = true) :
  ∃ (l : Option Addr) (b o len cap n : Nat) (C : Nat → List Value) (D : Nat → DataW H), v = .slice l len cap ∧ len ≤ 9223372036854775807 ∧ (0 < len → l = some ⟨b, o, none⟩) ∧ ∀ j, j < len → (C j).length = K ∧ (∀ i x, (C j)[i]? = some x → W.cell? ⟨b, o + j * K + i, none⟩ = some x) ∧ (∃ q, DataW.trod enc Tryz.prog W 0 (fun _ => true) true n e (C j) = some (D j, q)) ∧ ((D j).weights Tryz.prog e).all (· ≤ reachBytes) = true := by
 obtain ⟨l, len, cap, rfl⟩ := okWide_slice ht hval
 obtain ⟨n, h⟩ := h
 rcases open_slice ht h with ⟨hc, hx⟩ | ⟨a, len', cap', m, k, D, Pl, hc, _, hl, hm, hmm, hx, hall⟩
 ·simp [Value.cells] at hc
  obtain ⟨rfl, rfl, rfl⟩ := hc
  exact ⟨none, 0, 0, 0, 0, 0, fun _ => [], fun _ => .nil, rfl, by omega, fun h => by omega, fun j h => by omega⟩
 ·simp [Value.cells] at hc
  obtain ⟨rfl, rfl, rfl⟩ := hc
  simp only [if_true] at hmm
  subst hmm
  rw [hK] at hall
  obtain ⟨C, hC⟩ := choose_lt (p := fun i cs' => W.cells? 0 (a.add (i * K)) K = some cs' ∧ DataW.trod enc Tryz.prog W 0 (fun _ => true) true k e cs' = some (D i, Pl i)) hall
  obtain ⟨b, o, spot⟩ := a
  have hspot : 0 < len → spot = none := fun h1 => by
   obtain ⟨_, h3, h4⟩ := World.cells?_some (hC 0 (by omega)).1
   have h5 := h4 0 h0
   rw [List.getElem?_eq_getElem (by omega)] at h5
   simpa [Addr.add] using World.cell?_spot h5
  have hml : maxLen = 9223372036854775807 := rfl
  have hd : d = .slice ((List.range len).map D) ((List.range (m - len)).map fun j => D (len + j)) := congrArg Prod.fst hx
  subst hd
  unfold DataW.weights at hw
  rw [ht] at hw
  simp only [List.all_cons, List.all_append, Bool.and_eq_true] at hw
  refine ⟨_, b, o, len, m, k, C, D, rfl, by omega, fun h1 => by rw [hspot h1], fun j hj => ?_⟩
  obtain ⟨h1, h2⟩ := hC j (by omega)
  obtain ⟨_, h3, h4⟩ := World.cells?_some h1
  refine ⟨h3, fun i x hi => ?_, ⟨_, h2⟩, wt_all _ _ _ hw.2.1 _ (List.mem_map.2 ⟨j, List.mem_range.2 hj, rfl⟩)⟩
  have h5 := h4 i (by have := (List.getElem?_eq_some_iff.1 hi).1; omega)
  rw [hspot (by omega), add_plain, add_plain, hi] at h5
  exact h5
end
open Go.ChangeShapes Go.WideShapes Go.ChangeAt Go.RowKit Go.Deep
theorem op_shake {W : World} {b0 : Nat} {v : Value} (h : Value.okWide Tryz.prog W .any b0 23 v) : ∃ (a b c d : Yb), v = .agg (av 4 (ls [.string a, .string b, .string c, .string d])) := by
 obtain ⟨cs, rfl, hs, hc⟩ := row_cells (ts := [9, 9, 9, 9]) Tryz.underlying23 (by kernel_rfl) (by kernel_rfl) h
 obtain ⟨x0, e0, o0⟩ := hc 0 9 rfl
 obtain ⟨y0, rfl⟩ := cell_str o0
 obtain ⟨x1, e1, o1⟩ := hc 1 9 rfl
 obtain ⟨y1, rfl⟩ := cell_str o1
 obtain ⟨x2, e2, o2⟩ := hc 2 9 rfl
 obtain ⟨y2, rfl⟩ := cell_str o2
 obtain ⟨x3, e3, o3⟩ := hc 3 9 rfl
 obtain ⟨y3, rfl⟩ := cell_str o3
 refine ⟨y0, y1, y2, y3, congrArg Value.agg (row_av cs [.string y0, .string y1, .string y2, .string y3] hs fun i hi => ?_)⟩
 rcases i with _ | _ | _ | _ | i
 ·exact e0
 ·exact e1
 ·exact e2
 ·exact e3
 ·exact absurd hi (by simp)
theorem wt_at {H : Type} (P : Program) : ∀ (ts : List TypeId) (ds : List (DataW H)) (i : Nat) (t : TypeId) (s : Yb), ts[i]? = some t → ds[i]? = some (.lit (.string s.data.toList)) → (DataW.weightsEach P ts ds).all (· ≤ reachBytes) = true → s.size ≤ 140737488351232
 | t :: ts, d :: ds, 0, t', s, _, hd, h => by
  simp only [List.getElem?_cons_zero, Option.some.injEq] at hd
  subst hd
  exact wt_text P t s (wt_cons P t ts _ ds h).1
 | t :: ts, d :: ds, i + 1, t', s, ht, hd, h => by
  simp only [List.getElem?_cons_succ] at ht hd
  exact wt_at P ts ds i t' s ht hd (wt_cons P t ts d ds h).2
 | [], _, _, _, _, ht, _, _ => by simp at ht
 | _ :: _, [], _, _, _, _, hd, _ => by simp at hd
section
variable {H : Type} {enc : TypeId × Value → H}
theorem six_of {l : List Value} (h : l.length = 6) : ∃ a b c d e f, l = [a, b, c, d, e, f] := by
 match l, h with
 | [a, b, c, d, e, f], _ => exact ⟨a, b, c, d, e, f, rfl⟩
theorem int_lit {W : World} {n : Nat} {T : TypeId} {k : IntKind} {x : Value} {y : DataW H × List MemPlace} (ht : Tryz.prog.underlying T = some (.int k)) (h : DataW.trod enc Tryz.prog W 0 (fun _ => true) true n T [x] = some y) : ∃ z : Int, x = .int k z ∧ (Lit.int k z).wf = true := by
 obtain ⟨z, e1, _, e3⟩ := DataW.trod_int ht h
 simp only [List.cons.injEq, and_true] at e1
 exact ⟨z, e1, e3⟩
theorem open_said {W : World} {b0 : Nat} {v : Value} {d : DataW H} {p : List MemPlace} (hval : Value.okWide Tryz.prog W .any b0 24 v) (h : DataW.Trod enc Tryz.prog W 0 (fun _ => true) true 24 v d p) (hw : (d.weights Tryz.prog 24).all (· ≤ reachBytes) = true) :
  ∃ (l : Option Addr) (b o len cap : Nat) (Bf Cf : Nat → Bool) (Y : Nat → ByteArray) (Wh At Tn : Nat → Nat), v = .slice l len cap ∧ len ≤ 9223372036854775807 ∧ (0 < len → l = some ⟨b, o, none⟩) ∧ (∀ j, j < len → (Y j).size ≤ 140737488351232) ∧ (∀ j, j < len → Wh j < 256) ∧ (∀ j, j < len → At j < 65536) ∧ (∀ j, j < len → W.cell? ⟨b, o + j * 6 + 0, none⟩ = some (.bool (Bf j))) ∧ (∀ j, j < len → W.cell? ⟨b, o + j * 6 + 1, none⟩ = some (.bool (Cf j))) ∧ (∀ j, j < len → W.cell? ⟨b, o + j * 6 + 2, none⟩ = some (.string (Y j))) ∧ (∀ j, j < len → W.cell? ⟨b, o + j * 6 + 3, none⟩ = some (.int .u8 ((Wh j : Nat) : Int))) ∧ (∀ j, j < len → W.cell? ⟨b, o + j * 6 + 4, none⟩ = some (.int .u16 ((At j : Nat) : Int))) ∧ (∀ j, j < len → W.cell? ⟨b, o + j * 6 + 5, none⟩ = some (.int .u8 ((Tn j : Nat) : Int))) := by
 obtain ⟨l, b, o, len, cap, n, C, D, rfl, hm, hl, hC⟩ := open_rows Tryz.underlying24 (K := 6) (by kernel_rfl) (by decide) hval h hw
 have hs : ∀ i, i < len → ∃ t : Bool × Bool × ByteArray × Nat × Nat × Nat, C i = [.bool t.1, .bool t.2.1, .string t.2.2.1, .int .u8 (t.2.2.2.1 : Int), .int .u16 (t.2.2.2.2.1 : Int), .int .u8 (t.2.2.2.2.2 : Int)] ∧ t.2.2.1.size ≤ 140737488351232 ∧ t.2.2.2.1 < 256 ∧ t.2.2.2.2.1 < 65536 := fun i hi => by
  obtain ⟨h1, h2, ⟨q, h3⟩, h4⟩ := hC i hi
  obtain ⟨c0, c1, c2, c3, c4, c5, hc⟩ := six_of h1
  rw [hc] at h3 ⊢
  obtain ⟨xs, m, _, hx, _, hlen, hf⟩ := DataW.trod_struct Tryz.underlying27 h3
  have h14 : xs.length = 6 := hlen
  have hx1 : D i = .agg (xs.map (·.1)) := congrArg Prod.fst hx
  rw [hx1] at h4
  have hws : (DataW.weightsEach Tryz.prog [4, 4, 9, 5, 25, 5] (xs.map (·.1))).all (· ≤ reachBytes) = true := by
   unfold DataW.weights at h4
   rw [Tryz.underlying27] at h4
   exact h4
  have f0 : DataW.trod enc Tryz.prog W 0 (fun _ => true) true m 4 [c0] = xs[0]? := hf 0 _ rfl
  have f1 : DataW.trod enc Tryz.prog W 0 (fun _ => true) true m 4 [c1] = xs[1]? := hf 1 _ rfl
  have f2 : DataW.trod enc Tryz.prog W 0 (fun _ => true) true m 9 [c2] = xs[2]? := hf 2 _ rfl
  have f3 : DataW.trod enc Tryz.prog W 0 (fun _ => true) true m 5 [c3] = xs[3]? := hf 3 _ rfl
  have f4 : DataW.trod enc Tryz.prog W 0 (fun _ => true) true m 25 [c4] = xs[4]? := hf 4 _ rfl
  have f5 : DataW.trod enc Tryz.prog W 0 (fun _ => true) true m 5 [c5] = xs[5]? := hf 5 _ rfl
  rw [List.getElem?_eq_getElem (by omega)] at f0 f1 f2 f3 f4 f5
  obtain ⟨s0, e0, _⟩ := DataW.trod_bool Tryz.underlying4 f0
  obtain ⟨s1, e1, _⟩ := DataW.trod_bool Tryz.underlying4 f1
  obtain ⟨s2, e2, e2b, _⟩ := DataW.trod_string Tryz.underlying9 f2
  simp only [List.cons.injEq, and_true] at e0 e1 e2
  subst e0 e1 e2
  obtain ⟨z3, rfl, r3⟩ := int_lit Tryz.underlying5 f3
  obtain ⟨z4, rfl, r4⟩ := int_lit Tryz.underlying25 f4
  obtain ⟨z5, rfl, r5⟩ := int_lit Tryz.underlying5 f5
  have g3 : 0 ≤ z3 ∧ z3 ≤ 255 := by simpa [Lit.wf, IntKind.min, IntKind.max, IntKind.signed, IntKind.bits] using r3
  have g4 : 0 ≤ z4 ∧ z4 ≤ 65535 := by simpa [Lit.wf, IntKind.min, IntKind.max, IntKind.signed, IntKind.bits] using r4
  have g5 : 0 ≤ z5 ∧ z5 ≤ 255 := by simpa [Lit.wf, IntKind.min, IntKind.max, IntKind.signed, IntKind.bits] using r5
  refine ⟨(s0, s1, s2, z3.toNat, z4.toNat, z5.toNat), by simp only [Int.toNat_of_nonneg g3.1, Int.toNat_of_nonneg g4.1, Int.toNat_of_nonneg g5.1], ?_, by simp only; omega, by simp only; omega⟩
  exact wt_at _ _ _ 2 9 s2 rfl (by rw [List.getElem?_map, List.getElem?_eq_getElem (by omega), e2b]; rfl) hws
 obtain ⟨Y, hY⟩ := choose_lt hs
 refine ⟨l, b, o, len, cap, fun j => (Y j).1, fun j => (Y j).2.1, fun j => (Y j).2.2.1, fun j => (Y j).2.2.2.1, fun j => (Y j).2.2.2.2.1, fun j => (Y j).2.2.2.2.2, rfl, hm, hl, fun j hj => (hY j hj).2.1, fun j hj => (hY j hj).2.2.1, fun j hj => (hY j hj).2.2.2, fun j hj => (hC j hj).2.1 0 _ (by rw [(hY j hj).1]; rfl), fun j hj => (hC j hj).2.1 1 _ (by rw [(hY j hj).1]; rfl), fun j hj => (hC j hj).2.1 2 _ (by rw [(hY j hj).1]; rfl), fun j hj => (hC j hj).2.1 3 _ (by rw [(hY j hj).1]; rfl), fun j hj => (hC j hj).2.1 4 _ (by rw [(hY j hj).1]; rfl), fun j hj => (hC j hj).2.1 5 _ (by rw [(hY j hj).1]; rfl)⟩
end
open Go.RowKit
def lay6 : List (String × DataW Unit) := [("isthmus/blake.orders", Rows.laid_isthmus_blake_orders), ("isthmus/chacha.turns", Rows.laid_isthmus_chacha_turns)]
theorem int_of_trod {H : Type} {enc : TypeId × Value → H} {P : Program} {w : World} {base : Nat} {sp : Nat → Bool} {held : Bool} {fuel : Nat} {t : TypeId} {k : IntKind} {c : Value} {y : DataW H × List MemPlace}
  (ht : P.underlying t = some (.int k)) (h : DataW.trod enc P w base sp held fuel t [c] = some y) : ∃ n, c = .int k n ∧ y = (.lit (.int k n), []) := by
 cases fuel with
 | zero => simp [DataW.trod] at h
 | succ fuel =>
  cases c <;> simp [DataW.trod, ht] at h
  rename_i k' n
  obtain ⟨⟨rfl, _⟩, rfl⟩ := h
  exact ⟨n, rfl, rfl⟩
def litsOf : DataW Unit → List (DataW Unit)
 | .agg l => l
 | _ => []
theorem glA : Tryz.prog.globalNamed "isthmus/blake.orders" = some 0 := by kernel_rfl
theorem glTA : (Tryz.prog.globals[0]?).map (·.type) = some 236 := by kernel_rfl
theorem clCA : Tryz.prog.cellsOf 5 = 1 := by kernel_rfl
theorem clEA : Tryz.prog.cellsOf 228 = 16 := by kernel_rfl
theorem litsA : ∀ a, a < 10 → ∀ b, b < 16 → (litsOf (((litsOf Rows.laid_isthmus_blake_orders)[a]?).getD .nil))[b]? = some (.lit (.int .u8 (OF (a * 16 + b)))) := by
 have h : ((List.range 10).all fun a => (List.range 16).all fun b => match (litsOf (((litsOf Rows.laid_isthmus_blake_orders)[a]?).getD .nil))[b]? with | some (.lit (.int .u8 n)) => n == (OF (a * 16 + b) : Int) | _ => false) = true := by decide +kernel
 intro a ha b hb
 have h1 := List.all_eq_true.1 h a (List.mem_range.2 ha)
 have h2 := List.all_eq_true.1 h1 b (List.mem_range.2 hb)
 split at h2
 ·rename_i n e
  rw [e, eq_of_beq h2]
 ·cases h2
theorem layA {W : World} {cs : Array Value} {fuel : Nat} {p : List MemPlace} (hvar : W.var? Tryz.prog "isthmus/blake.orders" = some cs) (hd : DataW.trod (fun _ => ()) Tryz.prog W 0 (fun _ => true) false fuel 236 cs.toList = some (Rows.laid_isthmus_blake_orders, p)) : ∀ i, i < 160 → W.cell? ⟨0, i, none⟩ = some (.int .u8 (OF i)) := by
 obtain ⟨xs, m, _, hx, hlen, hxl, hat⟩ := DataW.trod_array Tryz.underlying236 hd
 have hl160 : cs.toList.length = 160 := hlen.trans (by kernel_rfl)
 have e1 : litsOf Rows.laid_isthmus_blake_orders = xs.map (·.1) := by
  have := congrArg Prod.fst hx
  simp only at this
  rw [this]
  rfl
 intro i hi
 rw [World.var?_cell glA hvar i]
 obtain ⟨a, ha⟩ : ∃ a, a = i / 16 := ⟨_, rfl⟩
 obtain ⟨b, hb⟩ : ∃ b, b = i % 16 := ⟨_, rfl⟩
 have hi3 : i = a * 16 + b := by omega
 have ha1 : a < 10 := by omega
 have hb1 : b < 16 := by omega
 have h1 := hat a ha1
 rw [clEA, List.getElem?_eq_getElem (by omega)] at h1
 have h3 := litsA a ha1 b hb1
 rw [e1, List.getElem?_map, List.getElem?_eq_getElem (l := xs) (i := a) (by omega), Option.map_some, Option.getD_some] at h3
 generalize xs[a] = xa at h1 h3
 obtain ⟨ys, m2, _, hy, hlen2, hyl, hat2⟩ := DataW.trod_array Tryz.underlying228 h1
 have e2 : litsOf xa.1 = ys.map (·.1) := by rw [hy]; rfl
 have h4 := hat2 b hb1
 have hl2 : cs.size = 160 := by simpa using hl160
 have hi2 : b < (List.take 16 (List.drop (a * 16) cs.toList)).length := by simp; omega
 rw [clCA, Nat.mul_one, List.drop_eq_getElem_cons hi2, List.take_succ_cons, List.take_zero, List.getElem?_eq_getElem (by omega)] at h4
 obtain ⟨n, hc, hy2⟩ := int_of_trod Tryz.underlying5 h4
 rw [e2, List.getElem?_map, List.getElem?_eq_getElem (l := ys) (i := b) (by omega), hy2] at h3
 simp at h3
 subst h3
 have e5 : cs.toList[i]? = some (List.take 16 (List.drop (a * 16) cs.toList))[b] := by
  rw [← List.getElem?_eq_getElem hi2, List.getElem?_take_of_lt hb1, List.getElem?_drop, hi3]
 rw [← Array.getElem?_toList, e5, hc, hi3]
theorem glB : Tryz.prog.globalNamed "isthmus/chacha.turns" = some 2 := by kernel_rfl
theorem glTB : (Tryz.prog.globals[2]?).map (·.type) = some 248 := by kernel_rfl
theorem clCB : Tryz.prog.cellsOf 3 = 1 := by kernel_rfl
theorem clEB : Tryz.prog.cellsOf 247 = 2 := by kernel_rfl
theorem litsB : ∀ a, a < 2 → ∀ b, b < 2 → (litsOf (((litsOf Rows.laid_isthmus_chacha_turns)[a]?).getD .nil))[b]? = some (.lit (.int .i64 (TF (a * 2 + b)))) := by
 have h : ((List.range 2).all fun a => (List.range 2).all fun b => match (litsOf (((litsOf Rows.laid_isthmus_chacha_turns)[a]?).getD .nil))[b]? with | some (.lit (.int .i64 n)) => n == (TF (a * 2 + b) : Int) | _ => false) = true := by decide +kernel
 intro a ha b hb
 have h1 := List.all_eq_true.1 h a (List.mem_range.2 ha)
 have h2 := List.all_eq_true.1 h1 b (List.mem_range.2 hb)
 split at h2
 ·rename_i n e
  rw [e, eq_of_beq h2]
 ·cases h2
theorem layB {W : World} {cs : Array Value} {fuel : Nat} {p : List MemPlace} (hvar : W.var? Tryz.prog "isthmus/chacha.turns" = some cs) (hd : DataW.trod (fun _ => ()) Tryz.prog W 0 (fun _ => true) false fuel 248 cs.toList = some (Rows.laid_isthmus_chacha_turns, p)) : ∀ i, i < 4 → W.cell? ⟨2, i, none⟩ = some (.int .i64 (TF i)) := by
 obtain ⟨xs, m, _, hx, hlen, hxl, hat⟩ := DataW.trod_array Tryz.underlying248 hd
 have hl160 : cs.toList.length = 4 := hlen.trans (by kernel_rfl)
 have e1 : litsOf Rows.laid_isthmus_chacha_turns = xs.map (·.1) := by
  have := congrArg Prod.fst hx
  simp only at this
  rw [this]
  rfl
 intro i hi
 rw [World.var?_cell glB hvar i]
 obtain ⟨a, ha⟩ : ∃ a, a = i / 2 := ⟨_, rfl⟩
 obtain ⟨b, hb⟩ : ∃ b, b = i % 2 := ⟨_, rfl⟩
 have hi3 : i = a * 2 + b := by omega
 have ha1 : a < 2 := by omega
 have hb1 : b < 2 := by omega
 have h1 := hat a ha1
 rw [clEB, List.getElem?_eq_getElem (by omega)] at h1
 have h3 := litsB a ha1 b hb1
 rw [e1, List.getElem?_map, List.getElem?_eq_getElem (l := xs) (i := a) (by omega), Option.map_some, Option.getD_some] at h3
 generalize xs[a] = xa at h1 h3
 obtain ⟨ys, m2, _, hy, hlen2, hyl, hat2⟩ := DataW.trod_array Tryz.underlying247 h1
 have e2 : litsOf xa.1 = ys.map (·.1) := by rw [hy]; rfl
 have h4 := hat2 b hb1
 have hl2 : cs.size = 4 := by simpa using hl160
 have hi2 : b < (List.take 2 (List.drop (a * 2) cs.toList)).length := by simp; omega
 rw [clCB, Nat.mul_one, List.drop_eq_getElem_cons hi2, List.take_succ_cons, List.take_zero, List.getElem?_eq_getElem (by omega)] at h4
 obtain ⟨n, hc, hy2⟩ := int_of_trod Tryz.underlying3 h4
 rw [e2, List.getElem?_map, List.getElem?_eq_getElem (l := ys) (i := b) (by omega), hy2] at h3
 simp at h3
 subst h3
 have e5 : cs.toList[i]? = some (List.take 2 (List.drop (a * 2) cs.toList))[b] := by
  rw [← List.getElem?_eq_getElem hi2, List.getElem?_take_of_lt hb1, List.getElem?_drop, hi3]
 rw [← Array.getElem?_toList, e5, hc, hi3]
theorem laid_of {W : World} (h0 : laidMetH Tryz.prog lay6 W) : Laid W := by
 have h : laidMet Tryz.prog lay6 W := h0
 obtain ⟨ps, ⟨g, t, cs, fuel, p, q, hg, ht, hvar, hd, ⟨g2, t2, c2, f2, p2, q2, hg2, ht2, hv2, hd2, _, _⟩, _⟩, _⟩ := h
 obtain rfl := Option.some.inj (glA.symm.trans hg)
 obtain rfl := Option.some.inj (glTA.symm.trans ht)
 obtain rfl := Option.some.inj (glB.symm.trans hg2)
 obtain rfl := Option.some.inj (glTB.symm.trans ht2)
 exact ⟨layA hvar hd, layB hv2 hd2⟩
theorem lay_witness (os : Os) (args : Array Value) : laidMetH Tryz.prog lay6 ((World.laidAll Tryz.prog os lay6).forCall (fun _ _ => 0) ⟨#[], args, []⟩).memory := laidMet_laidAll (laid := lay6) args (by kernel_rfl) (by kernel_rfl)
end Go.Proofs.YtiahdbibeleakaaGreatDoor
