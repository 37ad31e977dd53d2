/- The filter's calls, whatever the time. -/
import Derived.Test.YtlfekknonjlopaaGJ
import Derived.Test.YtlfekknonjlopaaXZ
namespace Go.Proofs.Ytlfekknonjlopaa
open Go.RowKit
set_option linter.unusedVariables false
set_option linter.unusedSimpArgs false
set_option maxHeartbeats 0
set_option maxRecDepth 100000
variable {C : World → Prop}
theorem c_MatchD (l : List Rul) (h : Hed) (ho : rulOk l) (hn : rulNn l) : Ct S0 C 35 [vW 0, hdS h] [tD (rulD l)] [] [] [] (vV (.int .i64 (matF l h.f))) :=
  ct_lift (rulD l) [] [vW 0, hdS h] (fun v => [vV v, hdS h]) (fun E => rfl) fun v T hv => c_Match T l v h (rulD_T hv) ho hn
def inS (m : Int) (x : Flw) (a : Ans) (now : Int) : Int × Ans := if now ≥ 4611686018427387904 then (2, a) else inF m x a now
def outS (x : Flw) (a : Ans) (now : Int) : Int × Ans := if now ≥ 4611686018427387904 then (2, a) else outF x a now
theorem c_In (l : List Rul) (ho : rulOk l) (hn : rulNn l) (ga : Nat) (a : Ans) (h : Hed) (now : Int) (hl : a.l.length < 100000) : Ct S0 C 16 [vP 1 0, hdS h, vV (.int .u64 now)] [tD (rulD l), fltI ga] [tD (ansG ga a)] [gap] [tD (ansG ga (inS (matF l h.f) h.f a now).2)] (vV (.int .i64 (inS (matF l h.f) h.f a now).1)) := by
  by_cases q1 : now ≥ 4611686018427387904
  · rw [show inS (matF l h.f) h.f a now = (2, a) from if_pos q1]
    refine xIn Try.f16 fun E0 w0 hL hC hk => ?_
    refine xR 24 [(4, dC (c_pass2 (rulD l) (ansG ga a) ga now q1) [0, 1, 2])] ?_
    refine xMove 2 [] [] (ansG ga a) ?_
    exact xRetC [4]
  · rw [show inS (matF l h.f) h.f a now = inF (matF l h.f) h.f a now from if_neg q1]
    exact c_In0 (rulD l) ga a h now (matF l h.f) hl q1 fun C => c_MatchD l h ho hn
theorem c_Out (l : List Rul) (ga : Nat) (a : Ans) (h : Hed) (now : Int) (hl : a.l.length < 100000) : Ct S0 C 13 [vP 1 0, hdS h, vV (.int .u64 now)] [tD (rulD l), fltI ga] [tD (ansG ga a)] [gap] [tD (ansG ga (outS h.f a now).2)] (vV (.int .i64 (outS h.f a now).1)) := by
  by_cases q1 : now ≥ 4611686018427387904
  · rw [show outS h.f a now = (2, a) from if_pos q1]
    refine xIn Try.f13 fun E0 w0 hL hC hk => ?_
    refine xR 24 [(4, dC (c_pass2 (rulD l) (ansG ga a) ga now q1) [0, 1, 2])] ?_
    refine xMove 2 [] [] (ansG ga a) ?_
    exact xRetC [4]
  · rw [show outS h.f a now = outF h.f a now from if_neg q1]
    exact c_Out0 (rulD l) ga a h now hl q1
/-- Those of one flow. -/
def cls (x : Flw) (l : List Liv) : List Liv := l.filter fun p => decide (p.f = x)
theorem cls_has (x : Flw) : ∀ l : List Liv, hasL x l = !(cls x l).isEmpty
  | [] => rfl
  | p :: l => by
    have := cls_has x l
    unfold cls hasL at *
    by_cases e : p.f = x
    · simp [List.filter_cons, e]
    · simpa [List.filter_cons, e] using this
theorem cls_filter (x : Flw) (q : Liv → Bool) (l : List Liv) : cls x (l.filter q) = (cls x l).filter q := by
  simp only [cls, List.filter_filter]
  congr 1
  funext p
  exact Bool.and_comm _ _
theorem cls_rn (y x : Flw) (u : Int) : ∀ l : List Liv, cls y (rnL x u l) = if y = x then rnL x u (cls y l) else cls y l
  | [] => by simp [cls, rnL]
  | p :: l => by
    have ih := cls_rn y x u l
    rw [show rnL x u (p :: l) = if p.f = x then ⟨p.f, u⟩ :: l else p :: rnL x u l from rfl]
    by_cases e : p.f = x
    · rw [if_pos e]
      by_cases e2 : y = x
      · subst e2
        simp [cls, List.filter_cons, e, rnL]
      · simp [cls, List.filter_cons, e, e2, Ne.symm e2, eq_comm]
    · rw [if_neg e]
      by_cases e2 : y = x
      · subst e2
        rw [if_pos rfl] at ih ⊢
        simp only [cls, List.filter_cons, e, decide_false, Bool.false_eq_true, if_false] at ih ⊢
        exact ih
      · rw [if_neg e2] at ih ⊢
        simp only [cls, List.filter_cons] at ih ⊢
        split
        · rw [ih]
        · exact ih
theorem cls_add (y x : Flw) (u : Int) (l : List Liv) : cls y (l ++ [⟨x, u⟩]) = cls y l ++ if x = y then [⟨x, u⟩] else [] := by
  simp only [cls, List.filter_append]
  congr 1
  by_cases e : x = y <;> simp [List.filter_cons, e]
end Go.Proofs.Ytlfekknonjlopaa
