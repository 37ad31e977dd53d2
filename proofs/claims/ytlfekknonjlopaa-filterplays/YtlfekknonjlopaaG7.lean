/- The filter's calls. -/
import Derived.Test.YtlfekknonjlopaaG6
import Derived.Test.YtlfekknonjlopaaXY
namespace Go.Proofs.Ytlfekknonjlopaa
open Go.RowKit
set_option linter.unusedVariables false
set_option linter.unusedSimpArgs false
set_option maxHeartbeats 0
set_option maxRecDepth 100000
variable {C : World → Prop}
def revF (x : Flw) : Flw := ⟨x.p, x.d, x.s, x.to, x.fr⟩
theorem c_rev (x : Flw) : Ct S0 C 29 [flS x] [] [] [] [] (flS (revF x)) := by
  refine xIn Try.f29 fun E0 w0 hL hC hk => ?_
  refine xR 32 [] ?_
  exact (xRetC [])
theorem c_revD (x : Flw) : Ct S0 C 23 [flS x] [] [] [] [] (flS (revF x)) := by
  refine xIn Try.f23 fun E0 w0 hL hC hk => ?_
  refine xR 20 [] ?_
  exact (xRetC [])
structure Hed where
  f : Flw
  g : Int
  k : Int
  c : Int
  z : Int
abbrev hdS (h : Hed) : SV := vG [vV (.int .u8 h.f.p), vV (.bool h.f.s.v), vV (.int .u64 h.f.s.h), vV (.int .u64 h.f.s.l), vV (.bool h.f.d.v), vV (.int .u64 h.f.d.h), vV (.int .u64 h.f.d.l), vV (.int .u16 h.f.fr), vV (.int .u16 h.f.to), vV (.int .u8 h.g), vV (.int .u8 h.k), vV (.int .u8 h.c), vV (.int .i64 h.z)]
abbrev fltI (ga : Nat) : It := tC [vW 0, vV (.pointer (some ⟨ga, 0, none⟩))] 71
theorem c_pass2 (r s : DP) (ga : Nat) (now : Int) (q1 : now ≥ 4611686018427387904) : Ct S0 C 28 [vP 1 0, vV (.int .u64 now)] [tD r, fltI ga, tD s] [] [] [] (vV (.int .i64 2)) := by
  refine xIn Try.f28 fun E0 w0 hL hC hk => ?_
  refine xR 25 [(2, dC (c_made r ga) [0, 1]), (6, dT q1)] ?_
  exact (xRetC [])
theorem c_pass0 (r : DP) (ga : Nat) (a : Ans) (now : Int) (hl : a.l.length < 100000) (q1 : ¬ now ≥ 4611686018427387904) : Ct S0 C 28 [vP 1 0, vV (.int .u64 now)] [tD r, fltI ga] [tD (ansG ga a)] [gap] [tD (ansG ga (psA a now))] (vV (.int .i64 0)) := by
  refine xIn Try.f28 fun E0 w0 hL hC hk => ?_
  refine xR 36 [(2, dC (c_made r ga) [0, 1]), (6, dF q1), (13, dC (c_apass ga a now hl) [2])] ?_
  exact (xRetC [3])
def inF (m : Int) (x : Flw) (a : Ans) (now : Int) : Int × Ans :=
  if m ≥ 0 then (0, psA a now) else (if hasL x (psA a now).l then 0 else 210, rnA (psA a now) x)
theorem c_In2 (r s : DP) (ga : Nat) (h : Hed) (now : Int) (q1 : now ≥ 4611686018427387904) : Ct S0 C 16 [vP 1 0, hdS h, vV (.int .u64 now)] [tD r, fltI ga, tD s] [] [] [] (vV (.int .i64 2)) := by
  refine xIn Try.f16 fun E0 w0 hL hC hk => ?_
  refine xR 24 [(4, dC (c_pass2 r s ga now q1) [0, 1, 2])] ?_
  exact (xRetC [])
theorem ps_len (a : Ans) (now : Int) : (psA a now).l.length ≤ a.l.length := List.length_filter_le _ _
theorem c_In0 (r : DP) (ga : Nat) (a : Ans) (h : Hed) (now m : Int) (hl : a.l.length < 100000) (q1 : ¬ now ≥ 4611686018427387904) (cM : ∀ C, Ct S0 C 35 [vW 0, hdS h] [tD r] [] [] [] (vV (.int .i64 m))) : Ct S0 C 16 [vP 1 0, hdS h, vV (.int .u64 now)] [tD r, fltI ga] [tD (ansG ga a)] [gap] [tD (ansG ga (inF m h.f a now).2)] (vV (.int .i64 (inF m h.f a now).1)) := by
  refine xIn Try.f16 fun E0 w0 hL hC hk => ?_
  by_cases q2 : m ≥ 0
  · have e : inF m h.f a now = (0, psA a now) := if_pos q2
    rw [e]
    refine xR 28 [(4, dC (c_pass0 r ga a now hl q1) [0, 1, 2]), (13, dC (cM (fun w => Mem S0 { w := w0, r := List.map Blk.g (denP E0 (ix 0 ([tD r, fltI ga] ++ [tD (ansG ga a)]))) } [] w)) [0]), (14, dT q2)] ?_
    exact (xRetC [4])
  · have e : inF m h.f a now = (if hasL h.f (psA a now).l then 0 else 210, rnA (psA a now) h.f) := if_neg q2
    rw [e]
    have cR := fun C => (c_renew (C := C) ga (psA a now) h.f)
    cases q3 : hasL h.f (psA a now).l
    · simp only [q3] at cR
      refine xR 29 [(4, dC (c_pass0 r ga a now hl q1) [0, 1, 2]), (13, dC (cM (fun w => Mem S0 { w := w0, r := List.map Blk.g (denP E0 (ix 0 ([tD r, fltI ga] ++ [tD (ansG ga a)]))) } [] w)) [0]), (14, dF q2), (22, dC (cR (fun w => Mem S0 { w := w0, r := List.map Blk.g (denP E0 (ix 0 ([tD r, fltI ga] ++ [tD (ansG ga a)]))) } [] w)) [4])] ?_
      exact (xRetC [5])
    · simp only [q3] at cR
      refine xR 28 [(4, dC (c_pass0 r ga a now hl q1) [0, 1, 2]), (13, dC (cM (fun w => Mem S0 { w := w0, r := List.map Blk.g (denP E0 (ix 0 ([tD r, fltI ga] ++ [tD (ansG ga a)]))) } [] w)) [0]), (14, dF q2), (22, dC (cR (fun w => Mem S0 { w := w0, r := List.map Blk.g (denP E0 (ix 0 ([tD r, fltI ga] ++ [tD (ansG ga a)]))) } [] w)) [4])] ?_
      exact (xRetC [5])
def outF (x : Flw) (a : Ans) (now : Int) : Int × Ans :=
  if hasL (revF x) (psA a now).l = true then (0, rnA (psA a now) (revF x)) else adA (rnA (psA a now) (revF x)) (revF x)
theorem rn_len (x : Flw) (u : Int) : ∀ l : List Liv, (rnL x u l).length = l.length
  | [] => rfl
  | p :: l => by
    unfold rnL
    split
    · rfl
    · simp [rn_len x u l]
theorem c_Out2 (r s : DP) (ga : Nat) (h : Hed) (now : Int) (q1 : now ≥ 4611686018427387904) : Ct S0 C 13 [vP 1 0, hdS h, vV (.int .u64 now)] [tD r, fltI ga, tD s] [] [] [] (vV (.int .i64 2)) := by
  refine xIn Try.f13 fun E0 w0 hL hC hk => ?_
  refine xR 24 [(4, dC (c_pass2 r s ga now q1) [0, 1, 2])] ?_
  exact (xRetC [])
theorem c_Out0 (r : DP) (ga : Nat) (a : Ans) (h : Hed) (now : Int) (hl : a.l.length < 100000) (q1 : ¬ now ≥ 4611686018427387904) : Ct S0 C 13 [vP 1 0, hdS h, vV (.int .u64 now)] [tD r, fltI ga] [tD (ansG ga a)] [gap] [tD (ansG ga (outF h.f a now).2)] (vV (.int .i64 (outF h.f a now).1)) := by
  refine xIn Try.f13 fun E0 w0 hL hC hk => ?_
  have cR := fun C => (c_renew (C := C) ga (psA a now) (revF h.f))
  cases q3 : hasL (revF h.f) (psA a now).l
  · have e : outF h.f a now = adA (rnA (psA a now) (revF h.f)) (revF h.f) := if_neg (by rw [q3]; exact Bool.false_ne_true)
    rw [e]
    simp only [q3] at cR
    have q4 : hasL (revF h.f) (rnA (psA a now) (revF h.f)).l = false := by rw [show (rnA (psA a now) (revF h.f)).l = (psA a now).l from rn_miss q3, q3]
    have q5 := ps_len a now
    have q6 : (rnA (psA a now) (revF h.f)).l.length < 100000 := by
      show (rnL _ _ _).length < _
      rw [rn_len]
      omega
    refine xR 35 [(4, dC (c_pass0 r ga a now hl q1) [0, 1, 2]), (10, dC (c_rev h.f) []), (18, dC (cR (fun w => Mem S0 { w := w0, r := List.map Blk.g (denP E0 (ix 0 ([tD r, fltI ga] ++ [tD (ansG ga a)]))) } [] w)) [4]), (24, dC (c_add ga (rnA (psA a now) (revF h.f)) (revF h.f) q4 q6) [6])] ?_
    exact (xRetC [7])
  · have e : outF h.f a now = (0, rnA (psA a now) (revF h.f)) := if_pos q3
    rw [e]
    simp only [q3] at cR
    refine xR 36 [(4, dC (c_pass0 r ga a now hl q1) [0, 1, 2]), (10, dC (c_rev h.f) []), (18, dC (cR (fun w => Mem S0 { w := w0, r := List.map Blk.g (denP E0 (ix 0 ([tD r, fltI ga] ++ [tD (ansG ga a)]))) } [] w)) [4])] ?_
    exact (xRetC [6])
theorem c_Flows (r : DP) (ga : Nat) (a : Ans) (hl : a.l.length < 100000) : Ct S0 C 20 [vP 1 0] [tD r, fltI ga] [tD (ansG ga a)] [gap] [tD (ansG ga a), tD (livD a.l)] (vW 4) := by
  refine xIn Try.f20 fun E0 w0 hL hC hk => ?_
  refine xR 22 [(2, dC (c_made r ga) [0, 1]), (8, dC (c_all ga a hl) [2])] ?_
  exact (xRetC [3, 4])
end Go.Proofs.Ytlfekknonjlopaa
