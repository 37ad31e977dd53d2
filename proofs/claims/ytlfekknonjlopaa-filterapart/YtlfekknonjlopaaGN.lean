/- FilterApart: the walk. -/
import Derived.Test.YtlfekknonjlopaaGM
import Derived.Test.YtlfekknonjlopaaXZ
namespace Go.Proofs.Ytlfekknonjlopaa
open Go.RowKit
set_option linter.unusedVariables false
set_option linter.unusedSimpArgs false
set_option maxHeartbeats 0
set_option maxRecDepth 100000
variable {C : World → Prop}
theorem c_apart (T : List Blk) (l : List Rul) (v : Value) (S : List Stp) (u : Value) (hv : rulT T l v) (ho : rulOk l) (hu : stpT T S u) (hS : stpOk S) (hn : rulNn l) (hn2 : ∀ i, i < S.length → rulNn (S.getD i st0).r) (x : Flw) (hx : 0 ≤ x.p ∧ x.p ≤ 255) (life : Int) (hlf : 0 ≤ life ∧ life ≤ 65535) : Ct S0 C 6 [vV v, vV (.int .u16 life), vV u, flS x] [tX T] [] [] [] (vV (.bool true)) := by
  have hz1 : ¬ zF (xp x.p) = x := fun e => xp_ne hx.1 hx.2 (congrArg Flw.p e)
  have hz2 : ¬ zF (xp x.p) = revF x := fun e => xp_ne hx.1 hx.2 (congrArg Flw.p e)
  have cH := fun C => c_heavy (C := C) T l v S u hv ho hu hS
  cases q0 : heF l S
  · obtain ⟨q1, q2, q3⟩ := light q0
    rw [q0] at cH
    have cC := fun C => c_copied (C := C) T l v hv ho (by omega)
    have eL : IntKind.wrap .u64 (IntKind.wrap .u64 life + 1) = life + 1 := by
      rw [w64 (x := life) (by omega) (by omega), w64 (by omega) (by omega)]
    have cN := fun C => c_new (C := C) l ho 1024 (IntKind.wrap .u64 (IntKind.wrap .u64 life + 1)) (by decide) (by decide) (by omega) (by omega)
    have cR := fun C => c_revD (C := C) x
    refine xIn Try.f6 fun E0 w0 hL hC hk => ?_
    refine xR 75 [(4, dC (cH _) [0]), (6, dC (cC _) [0]), (10, dC (cN _) [2]), (17, dC (cC _) [0]), (21, dC (cN _) [6]), (42, dC (cR _) [])] ?_
    generalize IntKind.wrap .u64 (IntKind.wrap .u64 life + 1) = lf at *
    refine xOpen (D := ansD ⟨1024, lf, 0, []⟩) 5 fun v0 T0 hv => ?_
    obtain ⟨ga, rfl, hG⟩ := ansD_G hv
    refine xPk (vV (.bool false)) [(5, tX T0)] (ansG ga ⟨1024, lf, 0, []⟩) [] [] (fun E h => ⟨rfl, by show ansG ga _ _ (T0 ++ []); rw [List.append_nil]; exact hG _⟩) ?_
    refine xOpen (D := ansD ⟨1024, lf, 0, []⟩) 9 fun v0 T0 hv => ?_
    obtain ⟨gb, rfl, hG2⟩ := ansD_G hv
    refine xPk (vV (.bool false)) [(9, tX T0)] (ansG gb ⟨1024, lf, 0, []⟩) [] [] (fun E h => ⟨rfl, by show ansG gb _ _ (T0 ++ []); rw [List.append_nil]; exact hG2 _⟩) ?_
    obtain ⟨bs, ⟨base, cap, b0, o, rfl, H⟩, hF⟩ := stp_sl hu
    clear hu
    have cW := fun C => c_works (C := C)
    refine xLp (fun (n : Nat) => [(14, vV (.int .i64 (n : Int)))]) (fun n => [(3, tD (rulD (rlS l S n))), (7, tD (rulD (rlS l S n))), (11, tD (ansG ga (runA l S ⟨1024, lf, 0, []⟩ n))), (12, tD (ansG gb (runB x (zF (xp x.p)) l S ⟨1024, lf, 0, []⟩ n)))]) apD (fun n => n ≤ S.length) (fun n => S.length - n) 0 (Nat.zero_le _) fun n d hx g => ?_
    by_cases q4 : (n : Int) < (S.length : Int)
    · have hn4 : n < S.length := by omega
      by_cases o2 : (S.getD n st0).o = 2
      · have cC2 := fun C => c_copied (C := C) T (S.getD n st0).r (rvS S bs n) (hF n hn4) (hS.2 n) (by have := q3 n hn4; omega)
        have c1 := fun C => c_setD (C := C) (rulD (rlS l S n)) ga (S.getD n st0).r (hS.2 n)
        have c2 := fun C => c_setD (C := C) (rulD (rlS l S n)) gb (S.getD n st0).r (hS.2 n)
        have e1 : rlS l S (n + 1) = (S.getD n st0).r := if_pos o2
        have eA : runA l S ⟨1024, lf, 0, []⟩ (n + 1) = runA l S ⟨1024, lf, 0, []⟩ n := if_pos o2
        have eB : runB x (zF (xp x.p)) l S ⟨1024, lf, 0, []⟩ (n + 1) = runB x (zF (xp x.p)) l S ⟨1024, lf, 0, []⟩ n := if_pos o2
        by_cases m1 : (S.getD n st0).h.f = x
        · refine xR 88 [(3, dT q4), (6, dIxR 24 H cap n hn4), (7, dLdR 46 0 H n hn4), (14, dEq42 ((S.getD n st0).h.f.p) ((S.getD n st0).h.f.s.v) ((S.getD n st0).h.f.s.h) ((S.getD n st0).h.f.s.l) ((S.getD n st0).h.f.d.v) ((S.getD n st0).h.f.d.h) ((S.getD n st0).h.f.d.l) ((S.getD n st0).h.f.fr) ((S.getD n st0).h.f.to) x.p x.s.v x.s.h x.s.l x.d.v x.d.h x.d.l x.fr x.to _ rfl), (15, dT m1), (27, dB ((iEq ((S.getD n st0).o) 2).trans (DT o2))), (32, dC (cC2 _) [0]), (33, dC (c1 _) [14, 3, 4]), (37, dC (cC2 _) [0]), (38, dC (c2 _) [16, 7, 8]), (46, dW ((↑n : Int) + 1) ((↑(n + 1) : Int)) (by omega) (by omega) (by omega))] ?_
          refine xWk 15 (D := rulD (S.getD n st0).r) (rulD (rlS l S (n + 1))) (fun v T h => by rw [e1]; exact h) ?_
          refine xWk 17 (D := rulD (S.getD n st0).r) (rulD (rlS l S (n + 1))) (fun v T h => by rw [e1]; exact h) ?_
          refine xWk 11 (D := ansG ga (runA l S ⟨1024, lf, 0, []⟩ n)) (ansG ga (runA l S ⟨1024, lf, 0, []⟩ (n + 1))) (fun v T h => by rw [eA]; exact h) ?_
          refine xWk 12 (D := ansG gb (runB x (zF (xp x.p)) l S ⟨1024, lf, 0, []⟩ n)) (ansG gb (runB x (zF (xp x.p)) l S ⟨1024, lf, 0, []⟩ (n + 1))) (fun v T h => by rw [eB]; exact h) ?_
          exact xNx g (n + 1) apD [0, 1, 2, 15, 4, 5, 6, 17, 8, 9, 10, 11, 12] (by omega) (by omega)
        · by_cases m2 : (S.getD n st0).h.f = revF x
          · refine xR 88 [(3, dT q4), (6, dIxR 24 H cap n hn4), (7, dLdR 46 0 H n hn4), (14, dEq42 ((S.getD n st0).h.f.p) ((S.getD n st0).h.f.s.v) ((S.getD n st0).h.f.s.h) ((S.getD n st0).h.f.s.l) ((S.getD n st0).h.f.d.v) ((S.getD n st0).h.f.d.h) ((S.getD n st0).h.f.d.l) ((S.getD n st0).h.f.fr) ((S.getD n st0).h.f.to) x.p x.s.v x.s.h x.s.l x.d.v x.d.h x.d.l x.fr x.to _ rfl), (15, dF m1), (20, dEq42 ((S.getD n st0).h.f.p) ((S.getD n st0).h.f.s.v) ((S.getD n st0).h.f.s.h) ((S.getD n st0).h.f.s.l) ((S.getD n st0).h.f.d.v) ((S.getD n st0).h.f.d.h) ((S.getD n st0).h.f.d.l) ((S.getD n st0).h.f.fr) ((S.getD n st0).h.f.to) ((revF x).p) ((revF x).s.v) ((revF x).s.h) ((revF x).s.l) ((revF x).d.v) ((revF x).d.h) ((revF x).d.l) ((revF x).fr) ((revF x).to) _ rfl), (21, dT m2), (27, dB ((iEq ((S.getD n st0).o) 2).trans (DT o2))), (32, dC (cC2 _) [0]), (33, dC (c1 _) [14, 3, 4]), (37, dC (cC2 _) [0]), (38, dC (c2 _) [16, 7, 8]), (46, dW ((↑n : Int) + 1) ((↑(n + 1) : Int)) (by omega) (by omega) (by omega))] ?_
            refine xWk 15 (D := rulD (S.getD n st0).r) (rulD (rlS l S (n + 1))) (fun v T h => by rw [e1]; exact h) ?_
            refine xWk 17 (D := rulD (S.getD n st0).r) (rulD (rlS l S (n + 1))) (fun v T h => by rw [e1]; exact h) ?_
            refine xWk 11 (D := ansG ga (runA l S ⟨1024, lf, 0, []⟩ n)) (ansG ga (runA l S ⟨1024, lf, 0, []⟩ (n + 1))) (fun v T h => by rw [eA]; exact h) ?_
            refine xWk 12 (D := ansG gb (runB x (zF (xp x.p)) l S ⟨1024, lf, 0, []⟩ n)) (ansG gb (runB x (zF (xp x.p)) l S ⟨1024, lf, 0, []⟩ (n + 1))) (fun v T h => by rw [eB]; exact h) ?_
            exact xNx g (n + 1) apD [0, 1, 2, 15, 4, 5, 6, 17, 8, 9, 10, 11, 12] (by omega) (by omega)
          · refine xR 88 [(3, dT q4), (6, dIxR 24 H cap n hn4), (7, dLdR 46 0 H n hn4), (14, dEq42 ((S.getD n st0).h.f.p) ((S.getD n st0).h.f.s.v) ((S.getD n st0).h.f.s.h) ((S.getD n st0).h.f.s.l) ((S.getD n st0).h.f.d.v) ((S.getD n st0).h.f.d.h) ((S.getD n st0).h.f.d.l) ((S.getD n st0).h.f.fr) ((S.getD n st0).h.f.to) x.p x.s.v x.s.h x.s.l x.d.v x.d.h x.d.l x.fr x.to _ rfl), (15, dF m1), (20, dEq42 ((S.getD n st0).h.f.p) ((S.getD n st0).h.f.s.v) ((S.getD n st0).h.f.s.h) ((S.getD n st0).h.f.s.l) ((S.getD n st0).h.f.d.v) ((S.getD n st0).h.f.d.h) ((S.getD n st0).h.f.d.l) ((S.getD n st0).h.f.fr) ((S.getD n st0).h.f.to) ((revF x).p) ((revF x).s.v) ((revF x).s.h) ((revF x).s.l) ((revF x).d.v) ((revF x).d.h) ((revF x).d.l) ((revF x).fr) ((revF x).to) _ rfl), (21, dF m2), (27, dB ((iEq ((S.getD n st0).o) 2).trans (DT o2))), (32, dC (cC2 _) [0]), (33, dC (c1 _) [14, 3, 4]), (37, dC (cC2 _) [0]), (38, dC (c2 _) [16, 7, 8]), (46, dW ((↑n : Int) + 1) ((↑(n + 1) : Int)) (by omega) (by omega) (by omega))] ?_
            refine xWk 15 (D := rulD (S.getD n st0).r) (rulD (rlS l S (n + 1))) (fun v T h => by rw [e1]; exact h) ?_
            refine xWk 17 (D := rulD (S.getD n st0).r) (rulD (rlS l S (n + 1))) (fun v T h => by rw [e1]; exact h) ?_
            refine xWk 11 (D := ansG ga (runA l S ⟨1024, lf, 0, []⟩ n)) (ansG ga (runA l S ⟨1024, lf, 0, []⟩ (n + 1))) (fun v T h => by rw [eA]; exact h) ?_
            refine xWk 12 (D := ansG gb (runB x (zF (xp x.p)) l S ⟨1024, lf, 0, []⟩ n)) (ansG gb (runB x (zF (xp x.p)) l S ⟨1024, lf, 0, []⟩ (n + 1))) (fun v T h => by rw [eB]; exact h) ?_
            exact xNx g (n + 1) apD [0, 1, 2, 15, 4, 5, 6, 17, 8, 9, 10, 11, 12] (by omega) (by omega)
      · have e1 : rlS l S (n + 1) = rlS l S n := if_neg o2
        have hA : (runA l S ⟨1024, lf, 0, []⟩ n).l.length < 100000 := by have := runA_len l S ⟨1024, lf, 0, []⟩ n; simp at this; omega
        have hB : (runB x (zF (xp x.p)) l S ⟨1024, lf, 0, []⟩ n).l.length < 100000 := by have := runB_len x (zF (xp x.p)) l S ⟨1024, lf, 0, []⟩ n; simp at this; omega
        have ho' : rulOk (rlS l S n) := rlS_ok rulOk ho (fun i _ => hS.2 i) n (by omega)
        have hn' : rulNn (rlS l S n) := rlS_ok rulNn hn hn2 n (by omega)
        have eA : runA l S ⟨1024, lf, 0, []⟩ (n + 1) = (opA (S.getD n st0).o (rlS l S n) (S.getD n st0).h.f (runA l S ⟨1024, lf, 0, []⟩ n) (S.getD n st0).n).2 := if_neg o2
        have hsg := run_sg x (zF (xp x.p)) hz1 hz2 l S lf n (by omega)
        have hsA : ((runA l S ⟨1024, lf, 0, []⟩ n).l.length : Int) < (runA l S ⟨1024, lf, 0, []⟩ n).most := by have := runA_len l S ⟨1024, lf, 0, []⟩ n; rw [runA_most]; simp at this ⊢; omega
        have hsB : ((runB x (zF (xp x.p)) l S ⟨1024, lf, 0, []⟩ n).l.length : Int) < (runB x (zF (xp x.p)) l S ⟨1024, lf, 0, []⟩ n).most := by have := runB_len x (zF (xp x.p)) l S ⟨1024, lf, 0, []⟩ n; rw [runB_most]; simp at this ⊢; omega
        have eBm : mine x (S.getD n st0) = true → runB x (zF (xp x.p)) l S ⟨1024, lf, 0, []⟩ (n + 1) = (opA (S.getD n st0).o (rlS l S n) (S.getD n st0).h.f (runB x (zF (xp x.p)) l S ⟨1024, lf, 0, []⟩ n) (S.getD n st0).n).2 := fun h => (if_neg o2).trans (if_pos h)
        have eBo : ¬ mine x (S.getD n st0) = true → runB x (zF (xp x.p)) l S ⟨1024, lf, 0, []⟩ (n + 1) = (opA 1 (rlS l S n) (zF (xp x.p)) (runB x (zF (xp x.p)) l S ⟨1024, lf, 0, []⟩ n) (S.getD n st0).n).2 := fun h => (if_neg o2).trans (if_neg h)
        have hmi : ∀ h : (S.getD n st0).h.f = x ∨ (S.getD n st0).h.f = revF x, (opA (S.getD n st0).o (rlS l S n) (S.getD n st0).h.f (runA l S ⟨1024, lf, 0, []⟩ n) (S.getD n st0).n).1 = (opA (S.getD n st0).o (rlS l S n) (S.getD n st0).h.f (runB x (zF (xp x.p)) l S ⟨1024, lf, 0, []⟩ n) (S.getD n st0).n).1 := fun h => (hsg.op h _ _ _ hsA hsB).1
        have cZ := fun C => c_In (C := C) (rlS l S n) ho' hn' gb (runB x (zF (xp x.p)) l S ⟨1024, lf, 0, []⟩ n) ⟨zF (xp x.p), 0, 0, 0, 0⟩ (S.getD n st0).n hB
        by_cases o0 : (S.getD n st0).o = 0
        · have cA := fun C => c_Out (C := C) (rlS l S n) ga (runA l S ⟨1024, lf, 0, []⟩ n) (S.getD n st0).h (S.getD n st0).n hA
          have cB := fun C => c_Out (C := C) (rlS l S n) gb (runB x (zF (xp x.p)) l S ⟨1024, lf, 0, []⟩ n) (S.getD n st0).h (S.getD n st0).n hB
          have e0 : ∀ a, opA (S.getD n st0).o (rlS l S n) (S.getD n st0).h.f a (S.getD n st0).n = outS (S.getD n st0).h.f a (S.getD n st0).n := fun a => if_pos o0
          rw [e0] at eA
          simp only [e0] at eBm hmi
          by_cases m1 : (S.getD n st0).h.f = x
          · have eB := eBm (by unfold mine; rw [decide_eq_true m1]; rfl)
            have eQ := hmi (.inl m1)
            clear eBm eBo hmi cZ
            cases h1 : (outS (S.getD n st0).h.f (runA l S { most := 1024, life := lf, now := 0, l := [] } n) (S.getD n st0).n).fst != (outS (S.getD n st0).h.f (runB x (zF (xp x.p)) l S { most := 1024, life := lf, now := 0, l := [] } n) (S.getD n st0).n).fst
            · refine xR 103 [(3, dT q4), (6, dIxR 24 H cap n hn4), (7, dLdR 46 0 H n hn4), (14, dEq42 ((S.getD n st0).h.f.p) ((S.getD n st0).h.f.s.v) ((S.getD n st0).h.f.s.h) ((S.getD n st0).h.f.s.l) ((S.getD n st0).h.f.d.v) ((S.getD n st0).h.f.d.h) ((S.getD n st0).h.f.d.l) ((S.getD n st0).h.f.fr) ((S.getD n st0).h.f.to) x.p x.s.v x.s.h x.s.l x.d.v x.d.h x.d.l x.fr x.to _ rfl), (15, dT m1), (27, dB ((iEq ((S.getD n st0).o) 2).trans (DF o2))), (29, dB ((iEq ((S.getD n st0).o) 0).trans (DT o0))), (36, dC (cA _) [3, 4, 11]), (44, dC (cB _) [7, 8, 12]), (50, dB h1), (53, dW ((↑n : Int) + 1) ((↑(n + 1) : Int)) (by omega) (by omega) (by omega))] ?_
              refine xWk 3 (D := rulD (rlS l S n)) (rulD (rlS l S (n + 1))) (fun v T h => by rw [e1]; exact h) ?_
              refine xWk 7 (D := rulD (rlS l S n)) (rulD (rlS l S (n + 1))) (fun v T h => by rw [e1]; exact h) ?_
              refine xWk 14 (D := ansG ga (outS (S.getD n st0).h.f (runA l S ⟨1024, lf, 0, []⟩ n) (S.getD n st0).n).2) (ansG ga (runA l S ⟨1024, lf, 0, []⟩ (n + 1))) (fun v T h => by rw [eA]; exact h) ?_
              refine xWk 15 (D := ansG gb (outS (S.getD n st0).h.f (runB x (zF (xp x.p)) l S ⟨1024, lf, 0, []⟩ n) (S.getD n st0).n).2) (ansG gb (runB x (zF (xp x.p)) l S ⟨1024, lf, 0, []⟩ (n + 1))) (fun v T h => by rw [eB]; exact h) ?_
              exact xNx g (n + 1) apD [0, 1, 2, 3, 4, 5, 6, 7, 8, 9, 10, 14, 15] (by omega) (by omega)
            · exact absurd h1 (by rw [eQ]; simp)
          · by_cases m2 : (S.getD n st0).h.f = revF x
            · have eB := eBm (by unfold mine; rw [decide_eq_true m2, Bool.or_true])
              have eQ := hmi (.inr m2)
              clear eBm eBo hmi cZ
              cases h1 : (outS (S.getD n st0).h.f (runA l S { most := 1024, life := lf, now := 0, l := [] } n) (S.getD n st0).n).fst != (outS (S.getD n st0).h.f (runB x (zF (xp x.p)) l S { most := 1024, life := lf, now := 0, l := [] } n) (S.getD n st0).n).fst
              · refine xR 103 [(3, dT q4), (6, dIxR 24 H cap n hn4), (7, dLdR 46 0 H n hn4), (14, dEq42 ((S.getD n st0).h.f.p) ((S.getD n st0).h.f.s.v) ((S.getD n st0).h.f.s.h) ((S.getD n st0).h.f.s.l) ((S.getD n st0).h.f.d.v) ((S.getD n st0).h.f.d.h) ((S.getD n st0).h.f.d.l) ((S.getD n st0).h.f.fr) ((S.getD n st0).h.f.to) x.p x.s.v x.s.h x.s.l x.d.v x.d.h x.d.l x.fr x.to _ rfl), (15, dF m1), (20, dEq42 ((S.getD n st0).h.f.p) ((S.getD n st0).h.f.s.v) ((S.getD n st0).h.f.s.h) ((S.getD n st0).h.f.s.l) ((S.getD n st0).h.f.d.v) ((S.getD n st0).h.f.d.h) ((S.getD n st0).h.f.d.l) ((S.getD n st0).h.f.fr) ((S.getD n st0).h.f.to) ((revF x).p) ((revF x).s.v) ((revF x).s.h) ((revF x).s.l) ((revF x).d.v) ((revF x).d.h) ((revF x).d.l) ((revF x).fr) ((revF x).to) _ rfl), (21, dT m2), (27, dB ((iEq ((S.getD n st0).o) 2).trans (DF o2))), (29, dB ((iEq ((S.getD n st0).o) 0).trans (DT o0))), (36, dC (cA _) [3, 4, 11]), (44, dC (cB _) [7, 8, 12]), (50, dB h1), (53, dW ((↑n : Int) + 1) ((↑(n + 1) : Int)) (by omega) (by omega) (by omega))] ?_
                refine xWk 3 (D := rulD (rlS l S n)) (rulD (rlS l S (n + 1))) (fun v T h => by rw [e1]; exact h) ?_
                refine xWk 7 (D := rulD (rlS l S n)) (rulD (rlS l S (n + 1))) (fun v T h => by rw [e1]; exact h) ?_
                refine xWk 14 (D := ansG ga (outS (S.getD n st0).h.f (runA l S ⟨1024, lf, 0, []⟩ n) (S.getD n st0).n).2) (ansG ga (runA l S ⟨1024, lf, 0, []⟩ (n + 1))) (fun v T h => by rw [eA]; exact h) ?_
                refine xWk 15 (D := ansG gb (outS (S.getD n st0).h.f (runB x (zF (xp x.p)) l S ⟨1024, lf, 0, []⟩ n) (S.getD n st0).n).2) (ansG gb (runB x (zF (xp x.p)) l S ⟨1024, lf, 0, []⟩ (n + 1))) (fun v T h => by rw [eB]; exact h) ?_
                exact xNx g (n + 1) apD [0, 1, 2, 3, 4, 5, 6, 7, 8, 9, 10, 14, 15] (by omega) (by omega)
              · exact absurd h1 (by rw [eQ]; simp)
            · have eB := eBo (by unfold mine; rw [decide_eq_false m1, decide_eq_false m2]; decide)
              clear eBm eBo hmi cB
              refine xR 105 [(3, dT q4), (6, dIxR 24 H cap n hn4), (7, dLdR 46 0 H n hn4), (14, dEq42 ((S.getD n st0).h.f.p) ((S.getD n st0).h.f.s.v) ((S.getD n st0).h.f.s.h) ((S.getD n st0).h.f.s.l) ((S.getD n st0).h.f.d.v) ((S.getD n st0).h.f.d.h) ((S.getD n st0).h.f.d.l) ((S.getD n st0).h.f.fr) ((S.getD n st0).h.f.to) x.p x.s.v x.s.h x.s.l x.d.v x.d.h x.d.l x.fr x.to _ rfl), (15, dF m1), (20, dEq42 ((S.getD n st0).h.f.p) ((S.getD n st0).h.f.s.v) ((S.getD n st0).h.f.s.h) ((S.getD n st0).h.f.s.l) ((S.getD n st0).h.f.d.v) ((S.getD n st0).h.f.d.h) ((S.getD n st0).h.f.d.l) ((S.getD n st0).h.f.fr) ((S.getD n st0).h.f.to) ((revF x).p) ((revF x).s.v) ((revF x).s.h) ((revF x).s.l) ((revF x).d.v) ((revF x).d.h) ((revF x).d.l) ((revF x).fr) ((revF x).to) _ rfl), (21, dF m2), (27, dB ((iEq ((S.getD n st0).o) 2).trans (DF o2))), (29, dB ((iEq ((S.getD n st0).o) 0).trans (DT o0))), (36, dC (cA _) [3, 4, 11]), (47, dC (cZ _) [7, 8, 12]), (55, dW ((↑n : Int) + 1) ((↑(n + 1) : Int)) (by omega) (by omega) (by omega))] ?_
              refine xWk 3 (D := rulD (rlS l S n)) (rulD (rlS l S (n + 1))) (fun v T h => by rw [e1]; exact h) ?_
              refine xWk 7 (D := rulD (rlS l S n)) (rulD (rlS l S (n + 1))) (fun v T h => by rw [e1]; exact h) ?_
              refine xWk 14 (D := ansG ga (outS (S.getD n st0).h.f (runA l S ⟨1024, lf, 0, []⟩ n) (S.getD n st0).n).2) (ansG ga (runA l S ⟨1024, lf, 0, []⟩ (n + 1))) (fun v T h => by rw [eA]; exact h) ?_
              refine xWk 15 (D := ansG gb (inS (matF (rlS l S n) (zF (xp x.p))) (zF (xp x.p)) (runB x (zF (xp x.p)) l S ⟨1024, lf, 0, []⟩ n) (S.getD n st0).n).2) (ansG gb (runB x (zF (xp x.p)) l S ⟨1024, lf, 0, []⟩ (n + 1))) (fun v T h => by rw [eB]; exact h) ?_
              exact xNx g (n + 1) apD [0, 1, 2, 3, 4, 5, 6, 7, 8, 9, 10, 14, 15] (by omega) (by omega)
        · have cA := fun C => c_In (C := C) (rlS l S n) ho' hn' ga (runA l S ⟨1024, lf, 0, []⟩ n) (S.getD n st0).h (S.getD n st0).n hA
          have cB := fun C => c_In (C := C) (rlS l S n) ho' hn' gb (runB x (zF (xp x.p)) l S ⟨1024, lf, 0, []⟩ n) (S.getD n st0).h (S.getD n st0).n hB
          have e0 : ∀ a, opA (S.getD n st0).o (rlS l S n) (S.getD n st0).h.f a (S.getD n st0).n = inS (matF (rlS l S n) (S.getD n st0).h.f) (S.getD n st0).h.f a (S.getD n st0).n := fun a => if_neg o0
          rw [e0] at eA
          simp only [e0] at eBm hmi
          by_cases m1 : (S.getD n st0).h.f = x
          · have eB := eBm (by unfold mine; rw [decide_eq_true m1]; rfl)
            have eQ := hmi (.inl m1)
            clear eBm eBo hmi cZ
            cases h1 : (inS (matF (rlS l S n) (S.getD n st0).h.f) (S.getD n st0).h.f (runA l S { most := 1024, life := lf, now := 0, l := [] } n) (S.getD n st0).n).fst != (inS (matF (rlS l S n) (S.getD n st0).h.f) (S.getD n st0).h.f (runB x (zF (xp x.p)) l S { most := 1024, life := lf, now := 0, l := [] } n) (S.getD n st0).n).fst
            · refine xR 103 [(3, dT q4), (6, dIxR 24 H cap n hn4), (7, dLdR 46 0 H n hn4), (14, dEq42 ((S.getD n st0).h.f.p) ((S.getD n st0).h.f.s.v) ((S.getD n st0).h.f.s.h) ((S.getD n st0).h.f.s.l) ((S.getD n st0).h.f.d.v) ((S.getD n st0).h.f.d.h) ((S.getD n st0).h.f.d.l) ((S.getD n st0).h.f.fr) ((S.getD n st0).h.f.to) x.p x.s.v x.s.h x.s.l x.d.v x.d.h x.d.l x.fr x.to _ rfl), (15, dT m1), (27, dB ((iEq ((S.getD n st0).o) 2).trans (DF o2))), (29, dB ((iEq ((S.getD n st0).o) 0).trans (DF o0))), (36, dC (cA _) [3, 4, 11]), (44, dC (cB _) [7, 8, 12]), (50, dB h1), (53, dW ((↑n : Int) + 1) ((↑(n + 1) : Int)) (by omega) (by omega) (by omega))] ?_
              refine xWk 3 (D := rulD (rlS l S n)) (rulD (rlS l S (n + 1))) (fun v T h => by rw [e1]; exact h) ?_
              refine xWk 7 (D := rulD (rlS l S n)) (rulD (rlS l S (n + 1))) (fun v T h => by rw [e1]; exact h) ?_
              refine xWk 14 (D := ansG ga (inS (matF (rlS l S n) (S.getD n st0).h.f) (S.getD n st0).h.f (runA l S ⟨1024, lf, 0, []⟩ n) (S.getD n st0).n).2) (ansG ga (runA l S ⟨1024, lf, 0, []⟩ (n + 1))) (fun v T h => by rw [eA]; exact h) ?_
              refine xWk 15 (D := ansG gb (inS (matF (rlS l S n) (S.getD n st0).h.f) (S.getD n st0).h.f (runB x (zF (xp x.p)) l S ⟨1024, lf, 0, []⟩ n) (S.getD n st0).n).2) (ansG gb (runB x (zF (xp x.p)) l S ⟨1024, lf, 0, []⟩ (n + 1))) (fun v T h => by rw [eB]; exact h) ?_
              exact xNx g (n + 1) apD [0, 1, 2, 3, 4, 5, 6, 7, 8, 9, 10, 14, 15] (by omega) (by omega)
            · exact absurd h1 (by rw [eQ]; simp)
          · by_cases m2 : (S.getD n st0).h.f = revF x
            · have eB := eBm (by unfold mine; rw [decide_eq_true m2, Bool.or_true])
              have eQ := hmi (.inr m2)
              clear eBm eBo hmi cZ
              cases h1 : (inS (matF (rlS l S n) (S.getD n st0).h.f) (S.getD n st0).h.f (runA l S { most := 1024, life := lf, now := 0, l := [] } n) (S.getD n st0).n).fst != (inS (matF (rlS l S n) (S.getD n st0).h.f) (S.getD n st0).h.f (runB x (zF (xp x.p)) l S { most := 1024, life := lf, now := 0, l := [] } n) (S.getD n st0).n).fst
              · refine xR 103 [(3, dT q4), (6, dIxR 24 H cap n hn4), (7, dLdR 46 0 H n hn4), (14, dEq42 ((S.getD n st0).h.f.p) ((S.getD n st0).h.f.s.v) ((S.getD n st0).h.f.s.h) ((S.getD n st0).h.f.s.l) ((S.getD n st0).h.f.d.v) ((S.getD n st0).h.f.d.h) ((S.getD n st0).h.f.d.l) ((S.getD n st0).h.f.fr) ((S.getD n st0).h.f.to) x.p x.s.v x.s.h x.s.l x.d.v x.d.h x.d.l x.fr x.to _ rfl), (15, dF m1), (20, dEq42 ((S.getD n st0).h.f.p) ((S.getD n st0).h.f.s.v) ((S.getD n st0).h.f.s.h) ((S.getD n st0).h.f.s.l) ((S.getD n st0).h.f.d.v) ((S.getD n st0).h.f.d.h) ((S.getD n st0).h.f.d.l) ((S.getD n st0).h.f.fr) ((S.getD n st0).h.f.to) ((revF x).p) ((revF x).s.v) ((revF x).s.h) ((revF x).s.l) ((revF x).d.v) ((revF x).d.h) ((revF x).d.l) ((revF x).fr) ((revF x).to) _ rfl), (21, dT m2), (27, dB ((iEq ((S.getD n st0).o) 2).trans (DF o2))), (29, dB ((iEq ((S.getD n st0).o) 0).trans (DF o0))), (36, dC (cA _) [3, 4, 11]), (44, dC (cB _) [7, 8, 12]), (50, dB h1), (53, dW ((↑n : Int) + 1) ((↑(n + 1) : Int)) (by omega) (by omega) (by omega))] ?_
                refine xWk 3 (D := rulD (rlS l S n)) (rulD (rlS l S (n + 1))) (fun v T h => by rw [e1]; exact h) ?_
                refine xWk 7 (D := rulD (rlS l S n)) (rulD (rlS l S (n + 1))) (fun v T h => by rw [e1]; exact h) ?_
                refine xWk 14 (D := ansG ga (inS (matF (rlS l S n) (S.getD n st0).h.f) (S.getD n st0).h.f (runA l S ⟨1024, lf, 0, []⟩ n) (S.getD n st0).n).2) (ansG ga (runA l S ⟨1024, lf, 0, []⟩ (n + 1))) (fun v T h => by rw [eA]; exact h) ?_
                refine xWk 15 (D := ansG gb (inS (matF (rlS l S n) (S.getD n st0).h.f) (S.getD n st0).h.f (runB x (zF (xp x.p)) l S ⟨1024, lf, 0, []⟩ n) (S.getD n st0).n).2) (ansG gb (runB x (zF (xp x.p)) l S ⟨1024, lf, 0, []⟩ (n + 1))) (fun v T h => by rw [eB]; exact h) ?_
                exact xNx g (n + 1) apD [0, 1, 2, 3, 4, 5, 6, 7, 8, 9, 10, 14, 15] (by omega) (by omega)
              · exact absurd h1 (by rw [eQ]; simp)
            · have eB := eBo (by unfold mine; rw [decide_eq_false m1, decide_eq_false m2]; decide)
              clear eBm eBo hmi cB
              refine xR 105 [(3, dT q4), (6, dIxR 24 H cap n hn4), (7, dLdR 46 0 H n hn4), (14, dEq42 ((S.getD n st0).h.f.p) ((S.getD n st0).h.f.s.v) ((S.getD n st0).h.f.s.h) ((S.getD n st0).h.f.s.l) ((S.getD n st0).h.f.d.v) ((S.getD n st0).h.f.d.h) ((S.getD n st0).h.f.d.l) ((S.getD n st0).h.f.fr) ((S.getD n st0).h.f.to) x.p x.s.v x.s.h x.s.l x.d.v x.d.h x.d.l x.fr x.to _ rfl), (15, dF m1), (20, dEq42 ((S.getD n st0).h.f.p) ((S.getD n st0).h.f.s.v) ((S.getD n st0).h.f.s.h) ((S.getD n st0).h.f.s.l) ((S.getD n st0).h.f.d.v) ((S.getD n st0).h.f.d.h) ((S.getD n st0).h.f.d.l) ((S.getD n st0).h.f.fr) ((S.getD n st0).h.f.to) ((revF x).p) ((revF x).s.v) ((revF x).s.h) ((revF x).s.l) ((revF x).d.v) ((revF x).d.h) ((revF x).d.l) ((revF x).fr) ((revF x).to) _ rfl), (21, dF m2), (27, dB ((iEq ((S.getD n st0).o) 2).trans (DF o2))), (29, dB ((iEq ((S.getD n st0).o) 0).trans (DF o0))), (36, dC (cA _) [3, 4, 11]), (47, dC (cZ _) [7, 8, 12]), (55, dW ((↑n : Int) + 1) ((↑(n + 1) : Int)) (by omega) (by omega) (by omega))] ?_
              refine xWk 3 (D := rulD (rlS l S n)) (rulD (rlS l S (n + 1))) (fun v T h => by rw [e1]; exact h) ?_
              refine xWk 7 (D := rulD (rlS l S n)) (rulD (rlS l S (n + 1))) (fun v T h => by rw [e1]; exact h) ?_
              refine xWk 14 (D := ansG ga (inS (matF (rlS l S n) (S.getD n st0).h.f) (S.getD n st0).h.f (runA l S ⟨1024, lf, 0, []⟩ n) (S.getD n st0).n).2) (ansG ga (runA l S ⟨1024, lf, 0, []⟩ (n + 1))) (fun v T h => by rw [eA]; exact h) ?_
              refine xWk 15 (D := ansG gb (inS (matF (rlS l S n) (zF (xp x.p))) (zF (xp x.p)) (runB x (zF (xp x.p)) l S ⟨1024, lf, 0, []⟩ n) (S.getD n st0).n).2) (ansG gb (runB x (zF (xp x.p)) l S ⟨1024, lf, 0, []⟩ (n + 1))) (fun v T h => by rw [eB]; exact h) ?_
              exact xNx g (n + 1) apD [0, 1, 2, 3, 4, 5, 6, 7, 8, 9, 10, 14, 15] (by omega) (by omega)
    · clear hF
      refine xR 15 [(3, dF q4), (4, dC (cW _) [])] ?_
      exact (xRetC [])
  · rw [q0] at cH
    have cW := fun C => c_works (C := C)
    refine xIn Try.f6 fun E0 w0 hL hC hk => ?_
    refine xR 18 [(4, dC (cH _) [0]), (5, dC (cW _) [])] ?_
    exact (xRetC [])
end Go.Proofs.Ytlfekknonjlopaa
