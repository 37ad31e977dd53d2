/- Which rule matches. -/
import Derived.Test.YtlfekknonjlopaaGD
import Derived.Test.YtlfekknonjlopaaXZ
namespace Go.Proofs.Ytlfekknonjlopaa
open Go.RowKit
set_option linter.unusedVariables false
set_option linter.unusedSimpArgs false
set_option maxHeartbeats 0
set_option maxRecDepth 100000
variable {C : World → Prop}
abbrev adS (a : Adr) : SV := vG [vV (.bool a.v), vV (.int .u64 a.h), vV (.int .u64 a.l)]
abbrev spS (s : Spn) : SV := vG [vV (.bool s.a.v), vV (.int .u64 s.a.h), vV (.int .u64 s.a.l), vV (.bool s.b.v), vV (.int .u64 s.b.h), vV (.int .u64 s.b.l)]
def lesB (a b : Adr) : Bool := if a.1 == b.1 then (if a.2.1 != b.2.1 then decide (a.2.1 < b.2.1) else decide (a.2.2 < b.2.2)) else b.1
def mayB (a : Adr) : Bool := a.1 || (decide (a.2.1 = 0) && decide (a.2.2 < 4294967296))
theorem c_less (v : Bool) (h l : Int) (v' : Bool) (h' l' : Int) : Ct S0 C 58 [vG [vV (.bool v), vV (.int .u64 h), vV (.int .u64 l)], vG [vV (.bool v'), vV (.int .u64 h'), vV (.int .u64 l')]] [] [] [] [] (vV (.bool (lesB (v, h, l) (v', h', l')))) := by
  refine xIn Try.f58 fun E0 w0 hL hC hk => ?_
  cases v <;> cases v'
  · cases h1 : h != h'
    · refine xR 39 [(13, dB h1)] ?_
      exact xB (b' := (decide (l < l'))) (by simp [lesB, h1]) (xRetC [])
    · refine xR 37 [(13, dB h1)] ?_
      exact xB (b' := (decide (h < h'))) (by simp [lesB, h1]) (xRetC [])
  · refine xR 24 [] ?_
    exact (xRetC [])
  · refine xR 24 [] ?_
    exact (xRetC [])
  · cases h1 : h != h'
    · refine xR 39 [(13, dB h1)] ?_
      exact xB (b' := (decide (l < l'))) (by simp [lesB, h1]) (xRetC [])
    · refine xR 37 [(13, dB h1)] ?_
      exact xB (b' := (decide (h < h'))) (by simp [lesB, h1]) (xRetC [])
theorem c_lessD (v : Bool) (h l : Int) (v' : Bool) (h' l' : Int) : Ct S0 C 54 [vG [vV (.bool v), vV (.int .u64 h), vV (.int .u64 l)], vG [vV (.bool v'), vV (.int .u64 h'), vV (.int .u64 l')]] [] [] [] [] (vV (.bool (lesB (v, h, l) (v', h', l')))) := by
  refine xIn Try.f54 fun E0 w0 hL hC hk => ?_
  cases v <;> cases v'
  · by_cases h1 : h < h'
    · refine xR 40 [(12, dT h1)] ?_
      exact xB (b' := true) (by simp [lesB, h1] <;> omega) (xRetC [])
    · by_cases h2 : h = h'
      · refine xR 40 [(12, dF h1), (18, dB (((iEq h h')).trans (DT h2)))] ?_
        exact xB (b' := (decide (l < l'))) (by simp [lesB, h1, h2]) (xRetC [])
      · refine xR 40 [(12, dF h1), (18, dB (((iEq h h')).trans (DF h2)))] ?_
        exact xB (b' := false) (by simp [lesB, h1, h2]) (xRetC [])
  · refine xR 22 [] ?_
    exact (xRetC [])
  · refine xR 22 [] ?_
    exact (xRetC [])
  · by_cases h1 : h < h'
    · refine xR 40 [(12, dT h1)] ?_
      exact xB (b' := true) (by simp [lesB, h1] <;> omega) (xRetC [])
    · by_cases h2 : h = h'
      · refine xR 40 [(12, dF h1), (18, dB (((iEq h h')).trans (DT h2)))] ?_
        exact xB (b' := (decide (l < l'))) (by simp [lesB, h1, h2]) (xRetC [])
      · refine xR 40 [(12, dF h1), (18, dB (((iEq h h')).trans (DF h2)))] ?_
        exact xB (b' := false) (by simp [lesB, h1, h2]) (xRetC [])
theorem c_mayD (v : Bool) (h l : Int) : Ct S0 C 53 [vG [vV (.bool v), vV (.int .u64 h), vV (.int .u64 l)]] [] [] [] [] (vV (.bool (mayB (v, h, l)))) := by
  refine xIn Try.f53 fun E0 w0 hL hC hk => ?_
  cases v
  · by_cases h1 : h = 0
    · refine xR 21 [(7, dB (((iEq h 0)).trans (DT h1)))] ?_
      exact xB (b' := (decide (l < 4294967296))) (by simp [mayB, h1]) (xRetC [])
    · refine xR 21 [(7, dB (((iEq h 0)).trans (DF h1)))] ?_
      exact xB (b' := false) (by simp [mayB, h1]) (xRetC [])
  · refine xR 21 [] ?_
    exact (xRetC [])
theorem c_mayA (v : Bool) (h l : Int) : Ct S0 C 69 [vG [vV (.bool v), vV (.int .u64 h), vV (.int .u64 l)]] [] [] [] [] (vV (.bool (mayB (v, h, l)))) := by
  refine xIn Try.f69 fun E0 w0 hL hC hk => ?_
  cases v
  · by_cases h1 : h = 0
    · refine xR 21 [(7, dB (((iEq h 0)).trans (DT h1)))] ?_
      exact xB (b' := (decide (l < 4294967296))) (by simp [mayB, h1]) (xRetC [])
    · refine xR 21 [(7, dB (((iEq h 0)).trans (DF h1)))] ?_
      exact xB (b' := false) (by simp [mayB, h1]) (xRetC [])
  · refine xR 21 [] ?_
    exact (xRetC [])
theorem c_wid (v : Bool) (h l : Int) : Ct S0 C 71 [vG [vV (.bool v), vV (.int .u64 h), vV (.int .u64 l)]] [] [] [] [] (vV (.int .i64 (if v then 128 else 32))) := by
  refine xIn Try.f71 fun E0 w0 hL hC hk => ?_
  cases v
  · refine xR 17 [] ?_
    exact (xRetC [])
  · refine xR 16 [] ?_
    exact (xRetC [])
theorem c_ones0 : Ct S0 C 72 [vV (.int .i64 0)] [] [] [] [] (vV (.int .u64 0)) := by
  refine xIn Try.f72 fun E0 w0 hL hC hk => ?_
  refine xR 12 [] ?_
  exact (xRetC [])
theorem c_onesN : Ct S0 C 72 [vV (.int .i64 (-64))] [] [] [] [] (vV (.int .u64 0)) := by
  refine xIn Try.f72 fun E0 w0 hL hC hk => ?_
  refine xR 12 [] ?_
  exact (xRetC [])
theorem c_ones96 : Ct S0 C 72 [vV (.int .i64 96)] [] [] [] [] (vV (.int .u64 18446744073709551615)) := by
  refine xIn Try.f72 fun E0 w0 hL hC hk => ?_
  refine xR 12 [] ?_
  exact (xRetC [])
theorem c_ones32 : Ct S0 C 72 [vV (.int .i64 32)] [] [] [] [] (vV (.int .u64 18446744069414584320)) := by
  refine xIn Try.f72 fun E0 w0 hL hC hk => ?_
  refine xR 12 [] ?_
  exact (xRetC [])
end Go.Proofs.Ytlfekknonjlopaa
