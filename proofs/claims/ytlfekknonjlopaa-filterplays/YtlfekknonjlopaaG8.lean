/- A filter without rules; FilterNone. -/
import Derived.Test.YtlfekknonjlopaaG7
import Derived.Test.YtlfekknonjlopaaXY
namespace Go.Proofs.Ytlfekknonjlopaa
open Go.RowKit
set_option linter.unusedVariables false
set_option linter.unusedSimpArgs false
set_option maxHeartbeats 0
set_option maxRecDepth 100000
variable {C : World → Prop}
abbrev Spn := Adr × Adr
abbrev Spn.a (x : Spn) : Adr := x.1
abbrev Spn.b (x : Spn) : Adr := x.2
abbrev Prt := Int × Int
abbrev Prt.a (x : Prt) : Int := x.1
abbrev Prt.b (x : Prt) : Int := x.2
abbrev Rul := List Int × List Spn × List Spn × List Prt
abbrev Rul.p (x : Rul) : List Int := x.1
abbrev Rul.s (x : Rul) : List Spn := x.2.1
abbrev Rul.d (x : Rul) : List Spn := x.2.2.1
abbrev Rul.t (x : Rul) : List Prt := x.2.2.2
def u8C (x : Int) : List Value := [.int .u8 x]
def spC (x : Spn) : List Value := [.bool x.a.v, .int .u64 x.a.h, .int .u64 x.a.l, .bool x.b.v, .int .u64 x.b.h, .int .u64 x.b.l]
def ptC (x : Prt) : List Value := [.int .u16 x.a, .int .u16 x.b]
def rulEl (r : Rul) (c : List Value) (T : List Blk) : Prop := ∃ v1 v2 v3 v4 T1 T2 T3 T4, c = [v1, v2, v3, v4] ∧ T = T1 ++ (T2 ++ (T3 ++ T4)) ∧ Buf 1 5 r.p.length (r.p.flatMap u8C) v1 T1 ∧ Buf 6 73 r.s.length (r.s.flatMap spC) v2 T2 ∧ Buf 6 73 r.d.length (r.d.flatMap spC) v3 T3 ∧ Buf 2 75 r.t.length (r.t.flatMap ptC) v4 T4
abbrev rulD (l : List Rul) : DP := RowD 4 67 rulEl l
abbrev heI (h : Hed) : It := tC [vV (.int .u8 h.f.p), vV (.bool h.f.s.v), vV (.int .u64 h.f.s.h), vV (.int .u64 h.f.s.l), vV (.bool h.f.d.v), vV (.int .u64 h.f.d.h), vV (.int .u64 h.f.d.l), vV (.int .u16 h.f.fr), vV (.int .u16 h.f.to), vV (.int .u8 h.g), vV (.int .u8 h.k), vV (.int .u8 h.c), vV (.int .i64 h.z)] 44
theorem c_idxR0 (h : Hed) : Ct S0 C 46 [vW 0, vF (.func 47) [] [vP 1 0]] [tD (rulD []), heI h] [] [] [] (vV (.int .i64 (-1))) := by
  refine xIn Try.f46 fun E0 w0 hL hC hk => ?_
  refine xR 12 [(2, dLenR 22 3 0 4 67 rulEl [] [].length rfl)] ?_
  refine xUn 2 ?_
  refine xR 11 [] ?_
  exact (xRetC [])
theorem c_cln0 : Ct S0 C 40 [vV (.slice none 0 0)] [] [] [] [] (vV (.slice none 0 0)) := by
  refine xIn Try.f40 fun E0 w0 hL hC hk => ?_
  refine xR 15 [] ?_
  exact (xRetC [])
theorem c_copy0 : Ct S0 C 26 [vV (.slice none 0 0)] [] [] [] [] (vV (.slice none 0 0)) := by
  refine xIn Try.f26 fun E0 w0 hL hC hk => ?_
  refine xR 18 [(2, dC (c_cln0) [])] ?_
  refine xUn 2 ?_
  refine xR 12 [] ?_
  exact (xRetC [])
theorem c_match0 (h : Hed) : Ct S0 C 35 [vW 0, hdS h] [tD (rulD [])] [] [] [] (vV (.int .i64 (-1))) := by
  refine xIn Try.f35 fun E0 w0 hL hC hk => ?_
  refine xR 12 [(4, dC (c_idxR0 h) [0, 1])] ?_
  exact (xRetC [])
theorem c_new0 (most life : Int) (h1 : ¬ most < 1) (h2 : ¬ most > 1024) (h3 : ¬ life < 1) (h4 : ¬ life > 4294967296) : Ct S0 C 10 [vV (.slice none 0 0), vV (.int .i64 most), vV (.int .u64 life)] [] [] [] [tD (rulD []), tC [vW 0, vW 2] 71, tD (ansD ⟨most, life, 0, []⟩)] (vT [vP 1 0, vV (.int .i64 0)]) := by
  refine xIn Try.f10 fun E0 w0 hL hC hk => ?_
  refine xR 32 [(3, dF h1), (6, dF h2), (10, dF h3), (14, dF h4), (17, dC c_copy0 []), (20, dC (c_noAns most life) [])] ?_
  refine xOpen (D := ansD ⟨most, life, 0, []⟩) 0 fun v0 T0 hv => ?_
  obtain ⟨ga, rfl, hG⟩ := ansD_G hv
  refine xR 5 [] ?_
  refine xPk (vV (.slice none 0 0)) [] (rulD []) [] [(1, 0)] (fun E h => ⟨rfl, row_nil _ _ _⟩) ?_
  refine xPk (vV (.pointer (some ⟨ga, 0, none⟩))) [(0, tX T0)] (ansD ⟨most, life, 0, []⟩) [] [(1, 1)] (fun E h => ⟨rfl, by show ansD _ _ (T0 ++ []); rw [List.append_nil]; exact hv⟩) ?_
  exact xRetC [2, 1, 3]
def xW : Flw := ⟨17, ⟨false, 0, 1⟩, ⟨false, 0, 2⟩, 5, 6⟩
theorem c_works : Ct S0 C 8 [] [] [] [] [] (vV (.bool true)) := by
  refine xIn Try.f8 fun E0 w0 hL hC hk => ?_
  refine xR 7 [(1, dC (c_new0 1 10 (by decide) (by decide) (by decide) (by decide)) [])] ?_
  refine xOpen (D := ansD ⟨1, 10, 0, []⟩) 2 fun v0 T0 hv => ?_
  obtain ⟨ga, rfl, hG⟩ := ansD_G hv
  refine xPk (vV (.bool false)) [(2, tX T0)] (ansG ga ⟨1, 10, 0, []⟩) [] [] (fun E h => ⟨rfl, by show ansG ga _ _ (T0 ++ []); rw [List.append_nil]; exact hG _⟩) ?_
  have k1 : ∀ C, Ct S0 C 16 [vP 1 0, hdS ⟨xW, 0, 0, 0, 0⟩, vV (.int .u64 1)] [tD (rulD []), fltI ga] [tD (ansG ga ⟨1, 10, 0, []⟩)] [gap] [tD (ansG ga ⟨1, 10, 1, []⟩)] (vV (.int .i64 210)) := fun C => c_In0 (rulD []) ga ⟨1, 10, 0, []⟩ ⟨xW, 0, 0, 0, 0⟩ 1 (-1) (by decide) (by decide) fun C => c_match0 _
  have k2 : ∀ C, Ct S0 C 13 [vP 1 0, hdS ⟨revF xW, 0, 0, 0, 0⟩, vV (.int .u64 1)] [tD (rulD []), fltI ga] [tD (ansG ga ⟨1, 10, 1, []⟩)] [gap] [tD (ansG ga ⟨1, 10, 1, [⟨xW, 11⟩]⟩)] (vV (.int .i64 0)) := fun C => c_Out0 (rulD []) ga ⟨1, 10, 1, []⟩ ⟨revF xW, 0, 0, 0, 0⟩ 1 (by decide) (by decide)
  have k3 : ∀ C, Ct S0 C 16 [vP 1 0, hdS ⟨xW, 0, 0, 0, 0⟩, vV (.int .u64 5)] [tD (rulD []), fltI ga] [tD (ansG ga ⟨1, 10, 1, [⟨xW, 11⟩]⟩)] [gap] [tD (ansG ga ⟨1, 10, 5, [⟨xW, 15⟩]⟩)] (vV (.int .i64 0)) := fun C => c_In0 (rulD []) ga ⟨1, 10, 1, [⟨xW, 11⟩]⟩ ⟨xW, 0, 0, 0, 0⟩ 5 (-1) (by decide) (by decide) fun C => c_match0 _
  have k4 : ∀ C, Ct S0 C 16 [vP 1 0, hdS ⟨xW, 0, 0, 0, 0⟩, vV (.int .u64 24)] [tD (rulD []), fltI ga] [tD (ansG ga ⟨1, 10, 5, [⟨xW, 15⟩]⟩)] [gap] [tD (ansG ga ⟨1, 10, 24, []⟩)] (vV (.int .i64 210)) := fun C => c_In0 (rulD []) ga ⟨1, 10, 5, [⟨xW, 15⟩]⟩ ⟨xW, 0, 0, 0, 0⟩ 24 (-1) (by decide) (by decide) fun C => c_match0 _
  have k5 : ∀ C, Ct S0 C 20 [vP 1 0] [tD (rulD []), fltI ga] [tD (ansG ga ⟨1, 10, 24, []⟩)] [gap] [tD (ansG ga ⟨1, 10, 24, []⟩), tD (livD [])] (vW 4) := fun C => c_Flows (rulD []) ga ⟨1, 10, 24, []⟩ (by decide)
  have k0 : ∀ C, Ct S0 C 23 [flS xW] [] [] [] [] (flS (revF xW)) := fun C => c_revD xW
  refine xR 83 [(19, dC (k1 _) [0, 1, 3]), (23, dC (k0 _) []), (25, dC (k2 _) [0, 1, 5]), (30, dC (k3 _) [0, 1, 6]), (35, dC (k4 _) [0, 1, 7]), (53, dC (k5 _) [0, 1, 8]), (54, dLenR 34 3 10 10 55 livEl [] [].length rfl)] ?_
  exact (xRetC [])
end Go.Proofs.Ytlfekknonjlopaa
