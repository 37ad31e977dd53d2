/- FilterPlays: whether the same. -/
import Derived.Test.YtlfekknonjlopaaGW
import Derived.Test.YtlfekknonjlopaaXZ
namespace Go.Proofs.Ytlfekknonjlopaa
open Go.RowKit
set_option linter.unusedVariables false
set_option linter.unusedSimpArgs false
set_option maxHeartbeats 0
set_option maxRecDepth 100000
variable {C : World → Prop}
theorem eqI55 (d : Nat) (x y : Flw) (u u' : Int) (w : World) : (Op.equalIn (d + 4) 55 (.agg (lvC (x, u)).toArray) (.agg (lvC (y, u')).toArray)).run Try.prog w = .ok (decide (x = y) && (u == u')) w := by
  obtain ⟨p, ⟨a, b, c⟩, ⟨e, f, g⟩, i, j⟩ := x
  obtain ⟨p', ⟨a', b', c'⟩, ⟨e', f', g'⟩, i', j'⟩ := y
  rw [run_equalIn_struct w (d + 3) 55 _ _ (by kernel_rfl) (by kernel_rfl)]
  rw [eqF_all (d + 3) _ _ w _ [(42, 0, flV ⟨p, ⟨a, b, c⟩, ⟨e, f, g⟩, i, j⟩, flV ⟨p', ⟨a', b', c'⟩, ⟨e', f', g'⟩, i', j'⟩, decide ((⟨p, ⟨a, b, c⟩, ⟨e, f, g⟩, i, j⟩ : Flw) = ⟨p', ⟨a', b', c'⟩, ⟨e', f', g'⟩, i', j'⟩)), (23, 9, .int .u64 u, .int .u64 u', u == u')] (by kernel_rfl) (by
    intro z hz
    simp only [List.mem_cons, List.mem_nil_iff, or_false] at hz
    rcases hz with rfl | rfl
    · exact ⟨by kernel_rfl, by kernel_rfl, eqI42 d _ _ w⟩
    · exact ⟨by kernel_rfl, by kernel_rfl, run_equalIn_int w (d + 2) 23 .u64 .u64 u u' Try.underlying23⟩)]
  simp [dec_int, Bool.and_assoc]
theorem eqI73 (d : Nat) (v : Bool) (h l : Int) (v2 : Bool) (h2 l2 : Int) (w : World) : (Op.equalIn (d + 3) 73 (.agg #[.bool v, .int .u64 h, .int .u64 l, .bool v2, .int .u64 h2, .int .u64 l2]) (.agg #[.bool v, .int .u64 h, .int .u64 l, .bool v2, .int .u64 h2, .int .u64 l2])).run Try.prog w = .ok true w := by
  rw [run_equalIn_struct w (d + 2) 73 _ _ (by kernel_rfl) (by kernel_rfl)]
  rw [eqF_all (d + 2) _ _ w _ [(39, 0, .agg #[.bool v, .int .u64 h, .int .u64 l], .agg #[.bool v, .int .u64 h, .int .u64 l], true), (39, 3, .agg #[.bool v2, .int .u64 h2, .int .u64 l2], .agg #[.bool v2, .int .u64 h2, .int .u64 l2], true)] (by kernel_rfl) (by
    intro z hz
    simp only [List.mem_cons, List.mem_nil_iff, or_false] at hz
    rcases hz with rfl | rfl
    · exact ⟨by kernel_rfl, by kernel_rfl, by have e := eqI39 d v h l v h l w; rw [decide_eq_true ⟨rfl, rfl, rfl⟩] at e; exact e⟩
    · exact ⟨by kernel_rfl, by kernel_rfl, by have e := eqI39 d v2 h2 l2 v2 h2 l2 w; rw [decide_eq_true ⟨rfl, rfl, rfl⟩] at e; exact e⟩)]
  simp
theorem eqI75 (d : Nat) (a b : Int) (w : World) : (Op.equalIn (d + 2) 75 (.agg #[.int .u16 a, .int .u16 b]) (.agg #[.int .u16 a, .int .u16 b])).run Try.prog w = .ok true w := by
  rw [run_equalIn_struct w (d + 1) 75 _ _ (by kernel_rfl) (by kernel_rfl)]
  rw [eqF_all (d + 1) _ _ w _ [(40, 0, .int .u16 a, .int .u16 a, a == a), (40, 1, .int .u16 b, .int .u16 b, b == b)] (by kernel_rfl) (by
    intro z hz
    simp only [List.mem_cons, List.mem_nil_iff, or_false] at hz
    rcases hz with rfl | rfl
    · exact ⟨by kernel_rfl, by kernel_rfl, run_equalIn_int w d 40 .u16 .u16 a a Try.underlying40⟩
    · exact ⟨by kernel_rfl, by kernel_rfl, run_equalIn_int w d 40 .u16 .u16 b b Try.underlying40⟩)]
  simp
/-- One and the same is not told apart. -/
def dSm55 (x : Liv) : Dr S0 C := dRd (oOp 14 55 0 [] [vG ((lvC x).map vV), vG ((lvC x).map vV)]) (vV (.bool false)) fun E w _ _ => by
  have h := run_neS (r := true) (w := w) (t := 55) (P := Try.prog) (by kernel_rfl) (by have := eqI55 9996 x.1 x.1 x.2 x.2 w; simp at this; exact this)
  exact h
def dSm73 (x : Spn) : Dr S0 C := dRd (oOp 14 73 0 [] [vG ((spC x).map vV), vG ((spC x).map vV)]) (vV (.bool false)) fun E w _ _ => by
  have h := run_neS (r := true) (w := w) (t := 73) (P := Try.prog) (by kernel_rfl) (eqI73 9997 x.a.v x.a.h x.a.l x.b.v x.b.h x.b.l w)
  exact h
def dSm75 (x : Prt) : Dr S0 C := dRd (oOp 14 75 0 [] [vG ((ptC x).map vV), vG ((ptC x).map vV)]) (vV (.bool false)) fun E w _ _ => by
  have h := run_neS (r := true) (w := w) (t := 75) (P := Try.prog) (by kernel_rfl) (eqI75 9998 x.1 x.2 w)
  exact h
theorem c_sameLT (T : List Blk) (L : List Liv) (v u : Value) (hv : Sl T 10 L.length (lvF L) v) (hu : Sl T 10 L.length (lvF L) u) (hl : L.length ≤ 1048576) : Ct S0 C 19 [vV v, vV u] [tX T] [] [] [] (vV (.bool true)) := by
  obtain ⟨base, cap, b0, o, rfl, H⟩ := hv
  obtain ⟨base2, cap2, b2, o2, rfl, H2⟩ := hu
  refine xIn Try.f19 fun E0 w0 hL hC hk => ?_
  have h1 : ((L.length : Int) != (L.length : Int)) = false := by simp
  refine xR 21 [(5, dB h1)] ?_
  refine xLp (fun (n : Nat) => [(5, vV (.int .i64 (n : Int)))]) (fun x => []) [11, 12, 13, 14, 17, 18, 19, 20, 21, 22, 23, 24, 25, 4, 15, 16] (fun n => n ≤ L.length) (fun n => L.length - n) 0 (Nat.zero_le _) fun n d hx g => ?_
  by_cases q3 : (n : Int) < (L.length : Int)
  · refine xR 22 [(3, dT q3), (6, dIxR 34 H cap n (by omega)), (7, dLdR 55 0 H n (by omega)), (10, dIxR 34 H2 cap2 n (by omega)), (11, dLdR 55 0 H2 n (by omega)), (12, dSm55 (L.getD n lv0.2)), (14, dW ((↑n : Int) + 1) ((↑(n + 1) : Int)) (by omega) (by omega) (by omega))] ?_
    exact xNx g (n + 1) [11, 12, 13, 14, 17, 18, 19, 20, 21, 22, 23, 24, 25, 4, 15, 16] [0] (by omega) (by omega)
  · refine xR 14 [(3, dF q3)] ?_
    exact (xRetC [])
theorem c_sameST (T : List Blk) (L : List Spn) (v u : Value) (hv : spT T L v) (hu : spT T L u) (hl : L.length ≤ 1048576) : Ct S0 C 37 [vV v, vV u] [tX T] [] [] [] (vV (.bool true)) := by
  obtain ⟨base, cap, b0, o, rfl, H⟩ := hv
  obtain ⟨base2, cap2, b2, o2, rfl, H2⟩ := hu
  refine xIn Try.f37 fun E0 w0 hL hC hk => ?_
  have h1 : ((L.length : Int) != (L.length : Int)) = false := by simp
  refine xR 21 [(5, dB h1)] ?_
  refine xLp (fun (n : Nat) => [(5, vV (.int .i64 (n : Int)))]) (fun x => []) [11, 12, 13, 14, 17, 18, 19, 20, 21, 22, 23, 24, 25, 4, 15, 16] (fun n => n ≤ L.length) (fun n => L.length - n) 0 (Nat.zero_le _) fun n d hx g => ?_
  by_cases q3 : (n : Int) < (L.length : Int)
  · refine xR 22 [(3, dT q3), (6, dIxR 64 H cap n (by omega)), (7, dLdR 73 0 H n (by omega)), (10, dIxR 64 H2 cap2 n (by omega)), (11, dLdR 73 0 H2 n (by omega)), (12, dSm73 (L.getD n sp0)), (14, dW ((↑n : Int) + 1) ((↑(n + 1) : Int)) (by omega) (by omega) (by omega))] ?_
    exact xNx g (n + 1) [11, 12, 13, 14, 17, 18, 19, 20, 21, 22, 23, 24, 25, 4, 15, 16] [0] (by omega) (by omega)
  · refine xR 14 [(3, dF q3)] ?_
    exact (xRetC [])
def mayF (n t : Int) : Bool := decide (n ≥ 1) && (decide (n ≤ 1024) && (decide (t ≥ 1) && decide (t ≤ 4294967296)))
theorem c_may21 (n t : Int) : Ct S0 C 11 [vV (.int .i64 n), vV (.int .u64 t)] [] [] [] [] (vV (.bool (mayF n t))) := by
  refine xIn Try.f11 fun E0 w0 hL hC hk => ?_
  unfold mayF
  by_cases h1 : n ≥ 1
  · rw [decide_eq_true h1, Bool.true_and]
    by_cases h2 : n ≤ 1024
    · rw [decide_eq_true h2, Bool.true_and]
      by_cases h3 : t ≥ 1
      · rw [decide_eq_true h3, Bool.true_and]
        refine xR 22 [(2, dT h1), (5, dT h2), (9, dT h3)] ?_
        exact (xRetC [])
      · rw [decide_eq_false h3, Bool.false_and]
        refine xR 22 [(2, dT h1), (5, dT h2), (9, dF h3)] ?_
        exact (xRetC [])
    · rw [decide_eq_false h2, Bool.false_and]
      refine xR 22 [(2, dT h1), (5, dF h2)] ?_
      exact (xRetC [])
  · rw [decide_eq_false h1, Bool.false_and]
    refine xR 22 [(2, dF h1)] ?_
    exact (xRetC [])
theorem c_newE (l : List Rul) (n t : Int) (h : mayF n t = false) : Ct S0 C 10 [vW 0, vV (.int .i64 n), vV (.int .u64 t)] [tD (rulD l)] [] [] [] (vT [vV (.pointer none), vV (.int .i64 2)]) := by
  refine xIn Try.f10 fun E0 w0 hL hC hk => ?_
  unfold mayF at h
  by_cases h1 : n < 1
  · refine xR 29 [(3, dT h1)] ?_
    exact (xRetC [])
  · by_cases h2 : n > 1024
    · refine xR 29 [(3, dF h1), (6, dT h2)] ?_
      exact (xRetC [])
    · by_cases h3 : t < 1
      · refine xR 29 [(3, dF h1), (6, dF h2), (10, dT h3)] ?_
        exact (xRetC [])
      · have h4 : t > 4294967296 := by
          rw [decide_eq_true (show n ≥ 1 by omega), decide_eq_true (show n ≤ 1024 by omega), decide_eq_true (show t ≥ 1 by omega)] at h
          simp at h
          omega
        refine xR 29 [(3, dF h1), (6, dF h2), (10, dF h3), (14, dT h4)] ?_
        exact (xRetC [])
theorem c_Rules (l : List Rul) (ho : rulOk l) (ga : Nat) : Ct S0 C 18 [vP 1 0] [tD (rulD l), fltI ga] [] [] [tD (rulD l)] (vW 2) := by
  have cM := fun C => c_made (C := C) (rulD l) ga
  have cC := fun C => c_copyD (C := C) l ho
  refine xIn Try.f18 fun E0 w0 hL hC hk => ?_
  refine xR 22 [(2, dC (cM _) [0, 1]), (8, dC (cC _) [0])] ?_
  exact (xRetC [2])
end Go.Proofs.Ytlfekknonjlopaa
