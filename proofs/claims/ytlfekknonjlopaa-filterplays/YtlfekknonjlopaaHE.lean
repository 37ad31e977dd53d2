/- FilterPlays. -/
import Derived.Test.YtlfekknonjlopaaHC
import Derived.Test.YtlfekknonjlopaaXZ
namespace Go.Proofs.Ytlfekknonjlopaa
open Go.RowKit
set_option linter.unusedVariables false
set_option linter.unusedSimpArgs false
set_option maxHeartbeats 0
set_option maxRecDepth 100000
variable {C : World → Prop}
def rvR (v : Value) (S : List Stp) (bs : Nat → Option Addr × Nat) : Nat → Value
  | 0 => v
  | n + 1 => if (S.getD n st0).o = 2 then rvS S bs n else rvR v S bs n
theorem rvR_ok {T : List Blk} {l : List Rul} {v : Value} {S : List Stp} {bs : Nat → Option Addr × Nat} (h0 : rulT T l v) (h1 : ∀ i, i < S.length → rulT T (S.getD i st0).r (rvS S bs i)) : ∀ n, n ≤ S.length → rulT T (rlS l S n) (rvR v S bs n)
  | 0, _ => h0
  | n + 1, h => by
    unfold rlS rvR
    split
    · exact h1 n (by omega)
    · exact rvR_ok h0 h1 n (by omega)
theorem mayF_iff {n t : Int} (h : mayF n t = true) : n ≥ 1 ∧ n ≤ 1024 ∧ t ≥ 1 ∧ t ≤ 4294967296 := by
  unfold mayF at h
  simpa [and_assoc] using h
abbrev plD : List Nat := [56, 57, 58, 59, 62, 63, 64, 65, 14, 66, 67, 82, 81, 83, 84, 85, 86, 87, 88, 89, 90, 91, 92, 93, 94, 95, 8, 97, 96, 98, 99, 100, 15, 101, 102, 103, 104, 105, 106, 107, 108, 109, 110, 111, 68, 69, 70, 71, 72, 73, 74, 75, 76, 77, 78, 79, 80, 112, 113, 16, 114, 115, 116, 117, 118, 119, 120, 121, 122, 123, 124, 125, 126, 127, 128, 129, 130, 131, 132, 60, 61]
theorem c_plays (T : List Blk) (l : List Rul) (v : Value) (S : List Stp) (u : Value) (hv : rulT T l v) (ho : rulOk l) (hu : stpT T S u) (hS : stpOk S) (hn : rulNn l) (hn2 : ∀ i, i < S.length → rulNn (S.getD i st0).r) (most life : Int) : Ct S0 C 3 [vV v, vV (.int .i64 most), vV (.int .u64 life), vV u] [tX T] [] [] [] (vV (.bool true)) := by
  have cH := fun C => c_heavy (C := C) T l v S u hv ho hu hS
  have cW := fun C => c_works (C := C)
  cases q0 : heF l S
  · obtain ⟨q1, q2, q3⟩ := light q0
    rw [q0] at cH
    have cC := fun C => c_copied (C := C) T l v hv ho (by omega)
    have cM := fun C => c_may21 (C := C) most life
    cases q4 : mayF most life
    · rw [q4] at cM
      have cN := fun C => c_newE (C := C) l most life q4
      refine xIn Try.f3 fun E0 w0 hL hC hk => ?_
      refine xR 53 [(3, dC (cH _) [0]), (5, dC (cC _) [0]), (10, dC (cN _) [1]), (18, dC (cM _) []), (27, dC (cW _) [])] ?_
      exact (xRetC [])
    · rw [q4] at cM
      obtain ⟨m1, m2, m3, m4⟩ := mayF_iff q4
      have cN := fun C => c_new (C := C) l ho most life (by omega) (by omega) (by omega) (by omega)
      have cP := fun C => c_spoil (C := C) l ho
      have hv0 := hv
      obtain ⟨Fv, ⟨bv, cv, bv0, ov, rfl, -⟩, -⟩ := hv
      refine xIn Try.f3 fun E0 w0 hL hC hk => ?_
      refine xR 73 [(3, dC (cH _) [0]), (5, dC (cC _) [0]), (10, dC (cN _) [1]), (18, dC (cM _) []), (33, dC (cP _) [1])] ?_
      refine xOpen (D := ansD ⟨most, life, 0, []⟩) 4 fun v0 T0 hv => ?_
      obtain ⟨ga, rfl, hG⟩ := ansD_G hv
      refine xPk (vV (.bool false)) [(4, tX T0)] (ansG ga ⟨most, life, 0, []⟩) [] [] (fun E h => ⟨rfl, by show ansG ga _ _ (T0 ++ []); rw [List.append_nil]; exact hG _⟩) ?_
      refine xPk (vV (.slice none 0 0)) [] (livD []) [] [(5, 1)] (fun E h => ⟨rfl, row_nil _ _ _⟩) ?_
      obtain ⟨bs, ⟨base, cap, b0, o, rfl, H⟩, hF⟩ := stp_sl hu
      clear hu hv hG
      obtain ⟨rA, hrA⟩ : ∃ f : Nat → Ans, f = runA l S ⟨most, life, 0, []⟩ := ⟨_, rfl⟩
      obtain ⟨rR, hrR⟩ : ∃ f : Nat → Value, f = rvR (.slice bv l.length cv) S bs := ⟨_, rfl⟩
      have hR : ∀ n, n ≤ S.length → rulT T (rlS l S n) (rR n) := by rw [hrR]; exact rvR_ok hv0 hF
      have hL : ∀ n, (rA n).l.length ≤ n := fun n => by rw [hrA]; have := runA_len l S ⟨most, life, 0, []⟩ n; simpa using this
      have hA0 : (⟨most, life, 0, []⟩ : Ans) = rA 0 := by rw [hrA]; rfl
      have hR0 : Value.slice bv l.length cv = rR 0 := by rw [hrR]; rfl
      clear hv0
      refine xIt 5 (x := rfI (.slice bv l.length cv) ⟨most, life, 0, []⟩ 7) (y := rfI (rR 0) (rA 0) 7) (by rw [← hA0, ← hR0]) ?_
      refine xWk 6 (D := ansG ga ⟨most, life, 0, []⟩) (ansG ga (rA 0)) (fun v T h => by rw [← hA0]; exact h) ?_
      refine xWk 7 (D := livD []) (livD (rA 0).l) (fun v T h => by rw [← hA0]; exact h) ?_
      refine xLp (fun (n : Nat) => [(13, vV (.int .i64 (n : Int)))]) (fun n => [(2, tD (rulD (rlS l S n))), (5, rfI (rR n) (rA n) 7), (6, tD (ansG ga (rA n))), (7, tD (livD (rA n).l))]) plD (fun n => n ≤ S.length) (fun n => S.length - n) 0 (Nat.zero_le _) fun n d hx g => ?_
      by_cases q5 : (n : Int) < (S.length : Int)
      · have hn4 : n < S.length := by omega
        have hR1 := hR (n + 1) (by omega)
        have hlA : (rA (n + 1)).l.length < 100000 := by have := hL (n + 1); omega
        have ho1 : rulOk (rlS l S (n + 1)) := rlS_ok rulOk ho (fun i _ => hS.2 i) (n + 1) (by omega)
        have k1 := fun C => c_Rules (C := C) (rlS l S (n + 1)) ho1 ga
        have k2 := fun C => c_Flows (C := C) (rulD (rlS l S (n + 1))) ga (rA (n + 1)) hlA
        have k3 := fun C => c_sameL (C := C) (rA (n + 1)).l (by omega)
        have k4 := fun C => c_sameR (C := C) T (rlS l S (n + 1)) (rR (n + 1)) hR1 ho1
        have k5 := fun C => c_spoil (C := C) (rlS l S (n + 1)) ho1
        by_cases o2 : (S.getD n st0).o = 2
        · have e1 : rlS l S (n + 1) = (S.getD n st0).r := if_pos o2
          have e2 : rR (n + 1) = rvS S bs n := by rw [hrR]; exact if_pos o2
          have eA : rA (n + 1) = rA n := by rw [hrA]; exact if_pos o2
          rw [eA] at k2 k3
          rw [e2] at k4
          have k6 : ∀ C, Ct S0 C 9 [vV (rvS S bs n)] [tX T] [] [] [tD (rulD (rlS l S (n + 1)))] (vW 1) := by
            rw [e1]
            exact fun C => c_copied (C := C) T (S.getD n st0).r (rvS S bs n) (hF n hn4) (hS.2 n) (by have := q3 n hn4; omega)
          have k7 := fun C => c_setD (C := C) (rulD (rlS l S n)) ga (rlS l S (n + 1)) ho1
          clear hR
          refine xR 92 [(3, dT q5), (6, dIxR 24 H cap n hn4), (7, dLdR 46 0 H n hn4), (12, dB ((iEq ((S.getD n st0).o) 0).trans (DF (p := (S.getD n st0).o = 0) (by omega)))), (14, dB ((iEq ((S.getD n st0).o) 2).trans (DT o2))), (18, dC (k6 _) [0]), (22, dC (k7 _) [9, 2, 3]), (25, dC (k5 _) [9]), (33, dC (k1 _) [10, 3]), (36, dC (k2 _) [10, 3, 6]), (41, dC (k3 _) [13, 7]), (49, dC (k4 _) [11, 0]), (53, dC (k5 _) [11]), (55, dW ((↑n : Int) + 1) ((↑(n + 1) : Int)) (by omega) (by omega) (by omega))] ?_
          refine xIt 5 (x := rfI (rvS S bs n) (rA n) 7) (y := rfI (rR (n + 1)) (rA (n + 1)) 7) (by rw [e2, eA]) ?_
          refine xWk 12 (D := ansG ga (rA n)) (ansG ga (rA (n + 1))) (fun v T h => by rw [eA]; exact h) ?_
          refine xWk 7 (D := livD (rA n).l) (livD (rA (n + 1)).l) (fun v T h => by rw [eA]; exact h) ?_
          exact xNx g (n + 1) plD [0, 1, 10, 3, 4, 5, 12, 7] (by omega) (by omega)
        · have e1 : rlS l S (n + 1) = rlS l S n := if_neg o2
          have e2 : rR (n + 1) = rR n := by rw [hrR]; exact if_neg o2
          have hl0 : (rA n).l.length < 100000 := by have := hL n; omega
          rw [e1] at k1 k2 k4 k5 ho1
          rw [e2] at k4
          have hRn := hR n (by omega)
          have hn' : rulNn (rlS l S n) := rlS_ok rulNn hn hn2 n (by omega)
          by_cases o0 : (S.getD n st0).o = 0
          · have eA : rA (n + 1) = (outS (S.getD n st0).h.f (rA n) (S.getD n st0).n).2 := by rw [hrA]; exact (if_neg o2).trans (congrArg Prod.snd (if_pos o0))
            have k6 := fun C => c_Out (C := C) (rlS l S n) ga (rA n) (S.getD n st0).h (S.getD n st0).n hl0
            have k7 := fun C => c_rOut (C := C) (rR n) (rA n) (S.getD n st0).h (S.getD n st0).n hl0
            rw [← eA] at k6 k7
            generalize (outS (S.getD n st0).h.f (rA n) (S.getD n st0).n).1 = code at k6 k7
            have q6 : (code != code) = false := by simp
            clear hR
            refine xR 60 [(3, dT q5), (6, dIxR 24 H cap n hn4), (7, dLdR 46 0 H n hn4), (12, dB ((iEq ((S.getD n st0).o) 0).trans (DT o0))), (19, dC (k6 _) [2, 3, 6]), (25, dC (k7 _) [5, 7]), (26, dB q6), (28, dC (k1 _) [2, 3]), (31, dC (k2 _) [2, 3, 9]), (36, dC (k3 _) [13, 10]), (44, dC (k4 _) [11, 0]), (48, dC (k5 _) [11]), (50, dW ((↑n : Int) + 1) ((↑(n + 1) : Int)) (by omega) (by omega) (by omega))] ?_
            refine xWk 2 (D := rulD (rlS l S n)) (rulD (rlS l S (n + 1))) (fun v T h => by rw [e1]; exact h) ?_
            refine xIt 5 (x := rfI (rR n) (rA (n + 1)) 10) (y := rfI (rR (n + 1)) (rA (n + 1)) 10) (by rw [e2]) ?_
            exact xNx g (n + 1) plD [0, 1, 2, 3, 4, 5, 12, 10] (by omega) (by omega)
          · have eA : rA (n + 1) = (inS (matF (rlS l S n) (S.getD n st0).h.f) (S.getD n st0).h.f (rA n) (S.getD n st0).n).2 := by rw [hrA]; exact (if_neg o2).trans (congrArg Prod.snd (if_neg o0))
            have k6 := fun C => c_In (C := C) (rlS l S n) ho1 hn' ga (rA n) (S.getD n st0).h (S.getD n st0).n hl0
            have k7 := fun C => c_rIn (C := C) T (rlS l S n) (rR n) hRn ho1 (rA n) (S.getD n st0).h (S.getD n st0).n hl0
            rw [← eA] at k6 k7
            generalize (inS (matF (rlS l S n) (S.getD n st0).h.f) (S.getD n st0).h.f (rA n) (S.getD n st0).n).1 = code at k6 k7
            have q6 : (code != code) = false := by simp
            clear hR
            refine xR 66 [(3, dT q5), (6, dIxR 24 H cap n hn4), (7, dLdR 46 0 H n hn4), (12, dB ((iEq ((S.getD n st0).o) 0).trans (DF o0))), (14, dB ((iEq ((S.getD n st0).o) 2).trans (DF o2))), (21, dC (k6 _) [2, 3, 6]), (27, dC (k7 _) [0, 5, 7]), (28, dB q6), (30, dC (k1 _) [2, 3]), (33, dC (k2 _) [2, 3, 9]), (38, dC (k3 _) [13, 10]), (46, dC (k4 _) [11, 0]), (50, dC (k5 _) [11]), (52, dW ((↑n : Int) + 1) ((↑(n + 1) : Int)) (by omega) (by omega) (by omega))] ?_
            refine xWk 2 (D := rulD (rlS l S n)) (rulD (rlS l S (n + 1))) (fun v T h => by rw [e1]; exact h) ?_
            refine xIt 5 (x := rfI (rR n) (rA (n + 1)) 10) (y := rfI (rR (n + 1)) (rA (n + 1)) 10) (by rw [e2]) ?_
            exact xNx g (n + 1) plD [0, 1, 2, 3, 4, 5, 12, 10] (by omega) (by omega)
      · clear hF hR
        refine xR 15 [(3, dF q5), (4, dC (cW _) [])] ?_
        exact (xRetC [])
  · rw [q0] at cH
    refine xIn Try.f3 fun E0 w0 hL hC hk => ?_
    refine xR 17 [(3, dC (cH _) [0]), (4, dC (cW _) [])] ?_
    exact (xRetC [])
end Go.Proofs.Ytlfekknonjlopaa
