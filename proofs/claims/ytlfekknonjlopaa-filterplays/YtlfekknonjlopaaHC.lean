/- FilterPlays: spoil walked. -/
import Derived.Test.YtlfekknonjlopaaHB
import Derived.Test.YtlfekknonjlopaaXZ
namespace Go.Proofs.Ytlfekknonjlopaa
open Go.RowKit
set_option linter.unusedVariables false
set_option linter.unusedSimpArgs false
set_option maxHeartbeats 0
set_option maxRecDepth 100000
variable {C : World → Prop}
/-- An element's place, whatever lies there. -/
def dIxS (t : TypeId) (K : Nat) {n : Nat} {ba : Option Addr} {g o : Nat} (hb : ba = some ⟨g, o, none⟩) (cap i : Nat) (h : i < n) (hu : Try.prog.underlying t = some (.slice (Try.prog.elem t)) := by kernel_rfl) (h0 : (Try.prog.info? (Try.prog.elem t)).map (·.size) = some K := by kernel_rfl) : Dr S0 C :=
  dRd (oOp 4 t 0 [] [vV (.slice ba n cap), vV (.int .i64 (i : Int))]) (vV (.pointer (some ⟨g, o + i * K, none⟩))) fun _ _ _ _ => by
    subst hb
    exact run_ixsl (a := none) hu (by cases hh : Try.prog.info? (Try.prog.elem t) with | none => rw [hh] at h0; cases h0 | some i => rfl) h (by unfold sizeT; rw [h0]; rfl)
abbrev spoD : List Nat := [7, 8, 9, 10, 3, 13, 14, 15, 16, 17, 18, 19, 20, 23, 24, 25, 26, 27, 28, 29, 21, 22, 4, 30, 31, 32, 33, 34, 35, 36, 37, 40, 41, 42, 43, 44, 45, 46, 47, 38, 39, 5, 48, 49, 50, 51, 52, 53, 54, 55, 58, 59, 60, 61, 62, 63, 64, 65, 56, 57, 6, 66, 67, 68, 69, 70, 71, 72, 73, 76, 77, 78, 79, 80, 81, 82, 83, 74, 75, 11, 12]
theorem c_spoil (l : List Rul) (ho : rulOk l) : Ct S0 C 12 [vW 0] [] [tD (rulD l)] [gap] [] (vT []) := by
  refine xIn Try.f12 fun E0 w0 hL hC hk => ?_
  refine xOpen (D := rulD l) 0 fun v0 T0 hv => ?_
  obtain ⟨base, cap, g0, bs, rfl, H, hsp⟩ := rulD_sp hv
  have hl := ho.1
  refine xPk (vV (.bool false)) [(0, tX T0)] (spD g0 0 l bs) [] [] (fun E h => ⟨rfl, by show spD g0 0 l bs _ (T0 ++ []); rw [List.append_nil]; exact hsp _⟩) ?_
  refine xR 5 [] ?_
  refine xLp (fun (n : Nat) => [(2, vV (.int .i64 (n : Int)))]) (fun n => [(1, tD (spD g0 0 l bs))]) spoD (fun n => n ≤ l.length) (fun n => l.length - n) 0 (Nat.zero_le _) fun n d hx g => ?_
  by_cases q3 : (n : Int) < (l.length : Int)
  · have hn : n < l.length := by omega
    have hS : ∀ v T, spD g0 0 l bs v T → ShR T (l.getD n ru0) (bs n) := fun v T h => h.2 n hn
    obtain ⟨s0, s1, s2, s3⟩ := ho.2 n
    refine xR 18 [(3, dT q3)] ?_
    refine xLp (fun (m : Nat) => [(3, vV (.int .i64 (m : Int)))]) (fun m => [(1, tD (spD g0 0 l bs))]) [13, 14, 15, 16, 17, 18, 19, 20, 23, 24, 25, 26, 27, 28, 29, 21, 22] (fun m => m ≤ (l.getD n ru0).p.length) (fun m => (l.getD n ru0).p.length - m) 0 (Nat.zero_le _) fun m d2 hx2 g2 => ?_
    by_cases q5 : (m : Int) < ((l.getD n ru0).p.length : Int)
    · have hm : m < (l.getD n ru0).p.length := by omega
      have hS0 : ∀ v T, spD g0 0 l bs v T → ShS T (l.getD n ru0).p.length 1 5 (bs n 0).1 := fun v T h => (hS v T h).p
      obtain ⟨ga, oa, -, hb, -, -⟩ := hS0 undef T0 (hsp _) (by omega)
      refine xR 32 [(3, dIxR 22 H cap n hn), (5, dLdSp g0 0 l bs 63 1 n 0 (0 + n * 4) (.slice (bs n 0).1 (l.getD n ru0).p.length (bs n 0).2) hn (by omega) rfl), (6, dLenV 63 3 (bs n 0).1 (l.getD n ru0).p.length (bs n 0).2), (7, dT q5), (10, dIxR 22 H cap n hn), (12, dLdSp g0 0 l bs 63 1 n 0 (0 + n * 4) (.slice (bs n 0).1 (l.getD n ru0).p.length (bs n 0).2) hn (by omega) rfl), (14, dIxS 63 1 hb (bs n 0).2 m hm), (15, dStD (spD g0 0 l bs) 5 ga (oa + m * 1) 1 (vV (.int .u8 0)) [.int .u8 0] (sp_store (K := 1) hb (by decide) hm (by omega) hS0) (fun E => rfl) (by simp [Value.oneCell'])), (17, dW ((↑m : Int) + 1) ((↑(m + 1) : Int)) (by omega) (by omega) (by omega))] ?_
      exact xNx g2 (m + 1) [13, 14, 15, 16, 17, 18, 19, 20, 23, 24, 25, 26, 27, 28, 29, 21, 22] [0, 2] (by omega) (by omega)
    · clear g2
      refine xR 20 [(3, dIxR 22 H cap n hn), (5, dLdSp g0 0 l bs 63 1 n 0 (0 + n * 4) (.slice (bs n 0).1 (l.getD n ru0).p.length (bs n 0).2) hn (by omega) rfl), (6, dLenV 63 3 (bs n 0).1 (l.getD n ru0).p.length (bs n 0).2), (7, dF q5)] ?_
      refine xLp (fun (m : Nat) => [(4, vV (.int .i64 (m : Int)))]) (fun m => [(1, tD (spD g0 0 l bs))]) [30, 31, 32, 33, 34, 35, 36, 37, 40, 41, 42, 43, 44, 45, 46, 47, 38, 39] (fun m => m ≤ (l.getD n ru0).s.length) (fun m => (l.getD n ru0).s.length - m) 0 (Nat.zero_le _) fun m d2 hx2 g2 => ?_
      by_cases q5 : (m : Int) < ((l.getD n ru0).s.length : Int)
      · have hm : m < (l.getD n ru0).s.length := by omega
        have hS0 : ∀ v T, spD g0 0 l bs v T → ShS T (l.getD n ru0).s.length 6 73 (bs n 1).1 := fun v T h => (hS v T h).s
        obtain ⟨ga, oa, -, hb, -, -⟩ := hS0 undef T0 (hsp _) (by omega)
        refine xR 33 [(3, dIxR 22 H cap n hn), (5, dLdSp g0 0 l bs 64 1 n 1 (0 + n * 4 + 1) (.slice (bs n 1).1 (l.getD n ru0).s.length (bs n 1).2) hn (by omega) rfl), (6, dLenV 64 3 (bs n 1).1 (l.getD n ru0).s.length (bs n 1).2), (7, dT q5), (10, dIxR 22 H cap n hn), (12, dLdSp g0 0 l bs 64 1 n 1 (0 + n * 4 + 1) (.slice (bs n 1).1 (l.getD n ru0).s.length (bs n 1).2) hn (by omega) rfl), (15, dIxS 64 6 hb (bs n 1).2 m hm), (16, dStD (spD g0 0 l bs) 73 ga (oa + m * 6) 1 (vG [vV (.bool false), vV (.int .u64 0), vV (.int .u64 0), vV (.bool false), vV (.int .u64 0), vV (.int .u64 0)]) [.bool false, .int .u64 0, .int .u64 0, .bool false, .int .u64 0, .int .u64 0] (sp_store (K := 6) hb (by decide) hm (by omega) hS0) (fun E => rfl) (by simp [Value.oneCell'])), (18, dW ((↑m : Int) + 1) ((↑(m + 1) : Int)) (by omega) (by omega) (by omega))] ?_
        exact xNx g2 (m + 1) [30, 31, 32, 33, 34, 35, 36, 37, 40, 41, 42, 43, 44, 45, 46, 47, 38, 39] [0, 2] (by omega) (by omega)
      · clear g2
        refine xR 20 [(3, dIxR 22 H cap n hn), (5, dLdSp g0 0 l bs 64 1 n 1 (0 + n * 4 + 1) (.slice (bs n 1).1 (l.getD n ru0).s.length (bs n 1).2) hn (by omega) rfl), (6, dLenV 64 3 (bs n 1).1 (l.getD n ru0).s.length (bs n 1).2), (7, dF q5)] ?_
        refine xLp (fun (m : Nat) => [(5, vV (.int .i64 (m : Int)))]) (fun m => [(1, tD (spD g0 0 l bs))]) [48, 49, 50, 51, 52, 53, 54, 55, 58, 59, 60, 61, 62, 63, 64, 65, 56, 57] (fun m => m ≤ (l.getD n ru0).d.length) (fun m => (l.getD n ru0).d.length - m) 0 (Nat.zero_le _) fun m d2 hx2 g2 => ?_
        by_cases q5 : (m : Int) < ((l.getD n ru0).d.length : Int)
        · have hm : m < (l.getD n ru0).d.length := by omega
          have hS0 : ∀ v T, spD g0 0 l bs v T → ShS T (l.getD n ru0).d.length 6 73 (bs n 2).1 := fun v T h => (hS v T h).d
          obtain ⟨ga, oa, -, hb, -, -⟩ := hS0 undef T0 (hsp _) (by omega)
          refine xR 33 [(3, dIxR 22 H cap n hn), (5, dLdSp g0 0 l bs 64 1 n 2 (0 + n * 4 + 2) (.slice (bs n 2).1 (l.getD n ru0).d.length (bs n 2).2) hn (by omega) rfl), (6, dLenV 64 3 (bs n 2).1 (l.getD n ru0).d.length (bs n 2).2), (7, dT q5), (10, dIxR 22 H cap n hn), (12, dLdSp g0 0 l bs 64 1 n 2 (0 + n * 4 + 2) (.slice (bs n 2).1 (l.getD n ru0).d.length (bs n 2).2) hn (by omega) rfl), (15, dIxS 64 6 hb (bs n 2).2 m hm), (16, dStD (spD g0 0 l bs) 73 ga (oa + m * 6) 1 (vG [vV (.bool false), vV (.int .u64 0), vV (.int .u64 0), vV (.bool false), vV (.int .u64 0), vV (.int .u64 0)]) [.bool false, .int .u64 0, .int .u64 0, .bool false, .int .u64 0, .int .u64 0] (sp_store (K := 6) hb (by decide) hm (by omega) hS0) (fun E => rfl) (by simp [Value.oneCell'])), (18, dW ((↑m : Int) + 1) ((↑(m + 1) : Int)) (by omega) (by omega) (by omega))] ?_
          exact xNx g2 (m + 1) [48, 49, 50, 51, 52, 53, 54, 55, 58, 59, 60, 61, 62, 63, 64, 65, 56, 57] [0, 2] (by omega) (by omega)
        · clear g2
          refine xR 19 [(3, dIxR 22 H cap n hn), (5, dLdSp g0 0 l bs 64 1 n 2 (0 + n * 4 + 2) (.slice (bs n 2).1 (l.getD n ru0).d.length (bs n 2).2) hn (by omega) rfl), (6, dLenV 64 3 (bs n 2).1 (l.getD n ru0).d.length (bs n 2).2), (7, dF q5)] ?_
          refine xLp (fun (m : Nat) => [(6, vV (.int .i64 (m : Int)))]) (fun m => [(1, tD (spD g0 0 l bs))]) [66, 67, 68, 69, 70, 71, 72, 73, 76, 77, 78, 79, 80, 81, 82, 83, 74, 75] (fun m => m ≤ (l.getD n ru0).t.length) (fun m => (l.getD n ru0).t.length - m) 0 (Nat.zero_le _) fun m d2 hx2 g2 => ?_
          by_cases q5 : (m : Int) < ((l.getD n ru0).t.length : Int)
          · have hm : m < (l.getD n ru0).t.length := by omega
            have hS0 : ∀ v T, spD g0 0 l bs v T → ShS T (l.getD n ru0).t.length 2 75 (bs n 3).1 := fun v T h => (hS v T h).t
            obtain ⟨ga, oa, -, hb, -, -⟩ := hS0 undef T0 (hsp _) (by omega)
            refine xR 33 [(3, dIxR 22 H cap n hn), (5, dLdSp g0 0 l bs 65 1 n 3 (0 + n * 4 + 3) (.slice (bs n 3).1 (l.getD n ru0).t.length (bs n 3).2) hn (by omega) rfl), (6, dLenV 65 3 (bs n 3).1 (l.getD n ru0).t.length (bs n 3).2), (7, dT q5), (10, dIxR 22 H cap n hn), (12, dLdSp g0 0 l bs 65 1 n 3 (0 + n * 4 + 3) (.slice (bs n 3).1 (l.getD n ru0).t.length (bs n 3).2) hn (by omega) rfl), (15, dIxS 65 2 hb (bs n 3).2 m hm), (16, dStD (spD g0 0 l bs) 75 ga (oa + m * 2) 1 (vG [vV (.int .u16 0), vV (.int .u16 0)]) [.int .u16 0, .int .u16 0] (sp_store (K := 2) hb (by decide) hm (by omega) hS0) (fun E => rfl) (by simp [Value.oneCell'])), (18, dW ((↑m : Int) + 1) ((↑(m + 1) : Int)) (by omega) (by omega) (by omega))] ?_
            exact xNx g2 (m + 1) [66, 67, 68, 69, 70, 71, 72, 73, 76, 77, 78, 79, 80, 81, 82, 83, 74, 75] [0, 2] (by omega) (by omega)
          · clear g2
            refine xR 20 [(3, dIxR 22 H cap n hn), (5, dLdSp g0 0 l bs 65 1 n 3 (0 + n * 4 + 3) (.slice (bs n 3).1 (l.getD n ru0).t.length (bs n 3).2) hn (by omega) rfl), (6, dLenV 65 3 (bs n 3).1 (l.getD n ru0).t.length (bs n 3).2), (7, dF q5), (9, dW ((↑n : Int) + 1) ((↑(n + 1) : Int)) (by omega) (by omega) (by omega))] ?_
            exact xNx g (n + 1) spoD [0, 1] (by omega) (by omega)
  · refine xR 10 [(3, dF q3)] ?_
    exact (xRetC [])
end Go.Proofs.Ytlfekknonjlopaa
