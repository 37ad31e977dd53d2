/- Which rule matches: spans, protocols, ports. -/
import Derived.Test.YtlfekknonjlopaaGF
import Derived.Test.YtlfekknonjlopaaXZ
namespace Go.Proofs.Ytlfekknonjlopaa
open Go.RowKit
set_option linter.unusedVariables false
set_option linter.unusedSimpArgs false
set_option maxHeartbeats 0
set_option maxRecDepth 100000
variable {C : World → Prop}
def spaB (s : Spn) : Bool := mayB s.1 && (mayB s.2 && (decide (s.1.1 = s.2.1) && !lesB s.2 s.1))
theorem c_span (v : Bool) (h l : Int) (v' : Bool) (h' l' : Int) (q1 : 0 ≤ l) (q2 : 0 ≤ l') : Ct S0 C 59 [vG [vV (.bool v), vV (.int .u64 h), vV (.int .u64 l), vV (.bool v'), vV (.int .u64 h'), vV (.int .u64 l')]] [] [] [] [] (vV (.bool (spaB ((v, h, l), (v', h', l'))))) := by
  refine xIn Try.f59 fun E0 w0 hL hC hk => ?_
  have k1 := fun C => c_may (C := C) v h l q1
  have k2 := fun C => c_may (C := C) v' h' l' q2
  have k3 := fun C => c_less (C := C) v' h' l' v h l
  unfold spaB
  generalize mayB (v, h, l) = m1 at *
  generalize mayB (v', h', l') = m2 at *
  generalize lesB (v', h', l') (v, h, l) = m3 at *
  cases m1
  · refine xR 34 [(4, dC (k1 _) [])] ?_
    exact (xRetC [])
  · cases m2
    · refine xR 34 [(4, dC (k1 _) []), (8, dC (k2 _) [])] ?_
      exact (xRetC [])
    · cases v <;> cases v'
      · refine xR 34 [(4, dC (k1 _) []), (8, dC (k2 _) []), (24, dC (k3 _) [])] ?_
        exact (xRetC [])
      · refine xR 34 [(4, dC (k1 _) []), (8, dC (k2 _) [])] ?_
        exact (xRetC [])
      · refine xR 34 [(4, dC (k1 _) []), (8, dC (k2 _) [])] ?_
        exact (xRetC [])
      · refine xR 34 [(4, dC (k1 _) []), (8, dC (k2 _) []), (24, dC (k3 _) [])] ?_
        exact (xRetC [])
theorem c_spanD (v : Bool) (h l : Int) (v' : Bool) (h' l' : Int) : Ct S0 C 52 [vG [vV (.bool v), vV (.int .u64 h), vV (.int .u64 l), vV (.bool v'), vV (.int .u64 h'), vV (.int .u64 l')]] [] [] [] [] (vV (.bool (spaB ((v, h, l), (v', h', l'))))) := by
  refine xIn Try.f52 fun E0 w0 hL hC hk => ?_
  have k1 := fun C => c_mayD (C := C) v h l
  have k2 := fun C => c_mayD (C := C) v' h' l'
  have k3 := fun C => c_lessD (C := C) v' h' l' v h l
  unfold spaB
  generalize mayB (v, h, l) = m1 at *
  generalize mayB (v', h', l') = m2 at *
  generalize lesB (v', h', l') (v, h, l) = m3 at *
  cases m1
  · refine xR 34 [(4, dC (k1 _) [])] ?_
    exact (xRetC [])
  · cases m2
    · refine xR 34 [(4, dC (k1 _) []), (8, dC (k2 _) [])] ?_
      exact (xRetC [])
    · cases v <;> cases v'
      · refine xR 34 [(4, dC (k1 _) []), (8, dC (k2 _) []), (24, dC (k3 _) [])] ?_
        exact (xRetC [])
      · refine xR 34 [(4, dC (k1 _) []), (8, dC (k2 _) [])] ?_
        exact (xRetC [])
      · refine xR 34 [(4, dC (k1 _) []), (8, dC (k2 _) [])] ?_
        exact (xRetC [])
      · refine xR 34 [(4, dC (k1 _) []), (8, dC (k2 _) []), (24, dC (k3 _) [])] ?_
        exact (xRetC [])
/-- The first place of a number. -/
def ixB (p : Int → Bool) (l : List Int) : Bool := l.any p
theorem c_ixU0 (T : List Blk) (l : List Int) (v : Value) (x : Int) (hv : u8T T l v) (q0 : ∀ i, i < l.length → ¬ x = l.getD i 0) (hl : l.length ≤ 1048576) : Ct S0 C 64 [vV v, vV (.int .u8 x)] [tX T] [] [] [] (vV (.int .i64 (-1))) := by
  obtain ⟨base, cap, b0, o, rfl, H⟩ := hv
  refine xIn Try.f64 fun E0 w0 hL hC hk => ?_
  refine xR 12 [] ?_
  refine xLp (fun (x : Nat) => [(8, vV (.int .i64 (x : Int)))]) (fun x => []) [9, 10, 5, 11, 12, 13, 14, 15, 16, 17, 4, 18] (fun x => x ≤ l.length) (fun x => l.length - x) 0 (Nat.zero_le _) fun n d hx g => ?_
  by_cases q3 : (n : Int) < (l.length : Int)
  · have q4 := q0 n (by omega)
    have H1 : SlO T 1 l.length (fun i _ => .int .u8 (l.getD i 0)) base b0 o := fun h => by
      obtain ⟨h1, Z, e, fr, h2, h3⟩ := H h
      exact ⟨h1, Z, e, fr, h2, fun i j hi hj => by
        have hj0 : j = 0 := by omega
        subst hj0
        exact h3 i 0 hi (by omega)⟩
    clear H
    refine xR 30 [(0, dT q3), (6, dIxR 63 H1 cap n (by omega)), (7, dLdR1 5 0 H1 n 0 (o + n * 1) (by omega)), (8, dB ((iEq x (l.getD n 0)).trans (DF q4))), (9, dW ((↑n : Int) + 1) ((↑(n + 1) : Int)) (by omega) (by omega) (by omega))] ?_
    exact xNx g (n + 1) [9, 10, 5, 11, 12, 13, 14, 15, 16, 17, 4, 18] [0] (by omega) (by omega)
  · refine xR 11 [(0, dF q3)] ?_
    exact (xRetC [])
theorem c_ixU1 (T : List Blk) (l : List Int) (v : Value) (x : Int) (k : Nat) (hv : u8T T l v) (k1 : k < l.length) (q0 : ∀ i, i < k → ¬ x = l.getD i 0) (q1 : x = l.getD k 0) (hl : l.length ≤ 1048576) : Ct S0 C 64 [vV v, vV (.int .u8 x)] [tX T] [] [] [] (vV (.int .i64 (k : Int))) := by
  obtain ⟨base, cap, b0, o, rfl, H⟩ := hv
  refine xIn Try.f64 fun E0 w0 hL hC hk => ?_
  have H1 : SlO T 1 l.length (fun i _ => .int .u8 (l.getD i 0)) base b0 o := fun h => by
    obtain ⟨h1, Z, e, fr, h2, h3⟩ := H h
    exact ⟨h1, Z, e, fr, h2, fun i j hi hj => by
      have hj0 : j = 0 := by omega
      subst hj0
      exact h3 i 0 hi (by omega)⟩
  clear H
  refine xR 12 [] ?_
  refine xLp (fun (x : Nat) => [(8, vV (.int .i64 (x : Int)))]) (fun x => []) [9, 10, 5, 11, 12, 13, 14, 15, 16, 17, 4, 18] (fun x => x ≤ k) (fun x => k - x) 0 (Nat.zero_le _) fun n d hx g => ?_
  have q3 : (n : Int) < (l.length : Int) := by omega
  by_cases q4 : n = k
  · subst q4
    refine xR 29 [(0, dT q3), (6, dIxR 63 H1 cap n k1), (7, dLdR1 5 0 H1 n 0 (o + n * 1) k1), (8, dB ((iEq x (l.getD n 0)).trans (DT q1)))] ?_
    exact (xRetC [])
  · have q5 := q0 n (by omega)
    refine xR 30 [(0, dT q3), (6, dIxR 63 H1 cap n (by omega)), (7, dLdR1 5 0 H1 n 0 (o + n * 1) (by omega)), (8, dB ((iEq x (l.getD n 0)).trans (DF q5))), (9, dW ((↑n : Int) + 1) ((↑(n + 1) : Int)) (by omega) (by omega) (by omega))] ?_
    exact xNx g (n + 1) [9, 10, 5, 11, 12, 13, 14, 15, 16, 17, 4, 18] [0] (by omega) (by omega)
end Go.Proofs.Ytlfekknonjlopaa
