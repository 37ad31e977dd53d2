/- FilterNone. -/
import Derived.Test.YtlfekknonjlopaaG8
import Derived.Test.YtlfekknonjlopaaXY
namespace Go.Proofs.Ytlfekknonjlopaa
open Go.RowKit
set_option linter.unusedVariables false
set_option linter.unusedSimpArgs false
set_option maxHeartbeats 0
set_option maxRecDepth 100000
variable {C : World → Prop}
theorem n_made : Ct S0 C 34 [vV (.pointer none)] [] [] [] [] (vV (.bool false)) := by
  refine xIn Try.f34 fun E0 w0 hL hC hk => ?_
  refine xR 17 [] ?_
  exact (xRetC [])
theorem n_pass (now : Int) : Ct S0 C 28 [vV (.pointer none), vV (.int .u64 now)] [] [] [] [] (vV (.int .i64 1)) := by
  refine xIn Try.f28 fun E0 w0 hL hC hk => ?_
  refine xR 18 [(2, dC (n_made) [])] ?_
  exact (xRetC [])
theorem n_Set : Ct S0 C 15 [vV (.pointer none), vV (.slice none 0 0)] [] [] [] [] (vV (.int .i64 1)) := by
  refine xIn Try.f15 fun E0 w0 hL hC hk => ?_
  refine xR 16 [(2, dC (n_made) [])] ?_
  exact (xRetC [])
theorem n_Out (h : Hed) (now : Int) : Ct S0 C 13 [vV (.pointer none), hdS h, vV (.int .u64 now)] [] [] [] [] (vV (.int .i64 1)) := by
  refine xIn Try.f13 fun E0 w0 hL hC hk => ?_
  refine xR 24 [(4, dC (n_pass now) [])] ?_
  exact (xRetC [])
theorem n_In (h : Hed) (now : Int) : Ct S0 C 16 [vV (.pointer none), hdS h, vV (.int .u64 now)] [] [] [] [] (vV (.int .i64 1)) := by
  refine xIn Try.f16 fun E0 w0 hL hC hk => ?_
  refine xR 24 [(4, dC (n_pass now) [])] ?_
  exact (xRetC [])
theorem n_Flows : Ct S0 C 20 [vV (.pointer none)] [] [] [] [] (vV (.slice none 0 0)) := by
  refine xIn Try.f20 fun E0 w0 hL hC hk => ?_
  refine xR 16 [(2, dC (n_made) [])] ?_
  exact (xRetC [])
theorem n_Rules : Ct S0 C 18 [vV (.pointer none)] [] [] [] [] (vV (.slice none 0 0)) := by
  refine xIn Try.f18 fun E0 w0 hL hC hk => ?_
  refine xR 16 [(2, dC (n_made) [])] ?_
  exact (xRetC [])
theorem c_none (h : Hed) (now : Int) : Ct S0 C 5 [hdS h, vV (.int .u64 now)] [] [] [] [] (vV (.bool true)) := by
  refine xIn Try.f5 fun E0 w0 hL hC hk => ?_
  have k1 := fun C => n_Out (C := C) h now
  have k2 := fun C => n_In (C := C) h now
  refine xR 43 [(4, dC (n_Set) []), (10, dC (k1 _) []), (17, dC (k2 _) []), (22, dC (n_Flows) []), (25, dC (n_Rules) []), (31, dC (c_works) [])] ?_
  exact (xRetC [])
end Go.Proofs.Ytlfekknonjlopaa
