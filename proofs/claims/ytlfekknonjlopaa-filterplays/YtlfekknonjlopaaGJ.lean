/- Which rule matches: Match. -/
import Derived.Test.YtlfekknonjlopaaGI
import Derived.Test.YtlfekknonjlopaaXZ
namespace Go.Proofs.Ytlfekknonjlopaa
open Go.RowKit
set_option linter.unusedVariables false
set_option linter.unusedSimpArgs false
set_option maxHeartbeats 0
set_option maxRecDepth 100000
variable {C : World → Prop}
abbrev pkC (h : Hed) : List SV := [vV (.int .u8 h.f.p), vV (.bool h.f.s.v), vV (.int .u64 h.f.s.h), vV (.int .u64 h.f.s.l), vV (.bool h.f.d.v), vV (.int .u64 h.f.d.h), vV (.int .u64 h.f.d.l), vV (.int .u16 h.f.fr), vV (.int .u16 h.f.to), vV (.int .u8 h.g), vV (.int .u8 h.k), vV (.int .u8 h.c), vV (.int .i64 h.z)]
def ruB (r : Rul) (x : Flw) : Bool := proB r.p x.p && ((r.s.any fun s => inB s x.s) && ((r.d.any fun s => inB s x.d) && porB r.t x))
def spNn (l : List Spn) : Prop := ∀ i, i < l.length → 0 ≤ (l.getD i sp0).a.l ∧ 0 ≤ (l.getD i sp0).b.l
theorem c_m1 (T : List Blk) (r : Rul) (F : Nat → Value) (h : Hed) (hr : RulI T r F) (ho : r.ok) (hs : spNn r.s) (hd : spNn r.d) : Ct S0 C 47 [vG [vV (F 0), vV (F 1), vV (F 2), vV (F 3)], vP 0 0] [tC (pkC h) 44, tX T] [] [] [] (vV (.bool (ruB r h.f))) := by
  obtain ⟨h0, h1, h2, h3⟩ := hr
  generalize F 0 = v0 at *
  generalize F 1 = v1 at *
  generalize F 2 = v2 at *
  generalize F 3 = v3 at *
  have c0 := fun C => c_byPro (C := C) T r.p v0 h.f h0 ho.1
  have c1 := fun C => c_within (C := C) h.f.s T r.s v1 h1 ho.2.1 hs
  have c2 := fun C => c_within (C := C) h.f.d T r.d v2 h2 ho.2.2.1 hd
  have c3 := fun C => c_byPort (C := C) T r.t v3 h.f h3 ho.2.2.2
  obtain ⟨b1, n1, g1, o1, rfl, -⟩ := h1
  obtain ⟨b2, n2, g2, o2, rfl, -⟩ := h2
  have d1 := fun C => c_vals (C := C) b1 r.s.length n1
  have d2 := fun C => c_vals (C := C) b2 r.d.length n2
  unfold ruB
  generalize proB r.p h.f.p = m0 at *
  generalize (r.s.any fun s => inB s h.f.s) = m1 at *
  generalize (r.d.any fun s => inB s h.f.d) = m2 at *
  generalize porB r.t h.f = m3 at *
  clear h0 h3 ho hs hd
  generalize r.s.length = k1 at *
  generalize r.d.length = k2 at *
  clear r F
  obtain ⟨⟨fp, ⟨sv, sh, sl⟩, ⟨dv, dh, dl⟩, ffr, fto⟩, hg, hk, hc, hz⟩ := h
  simp only [Flw.p, Flw.s, Flw.d, Flw.fr, Flw.to, Adr.v, Adr.h, Adr.l, pkC, adS, flS] at *
  refine xIn Try.f47 fun E0 w0 hL hC hk => ?_
  cases m0
  · refine xR 7 [(6, dC (c0 _) [1])] ?_
    exact (xRetC [])
  · cases m1
    · refine xR 7 [(6, dC (c0 _) [1]), (10, dC (d1 _) []), (14, dC (c1 _) [3, 1])] ?_
      exact (xRetC [])
    · cases m2
      · refine xR 7 [(6, dC (c0 _) [1]), (10, dC (d1 _) []), (14, dC (c1 _) [3, 1]), (19, dC (d2 _) []), (23, dC (c2 _) [4, 1])] ?_
        exact (xRetC [])
      · refine xR 7 [(6, dC (c0 _) [1]), (10, dC (d1 _) []), (14, dC (c1 _) [3, 1]), (19, dC (d2 _) []), (23, dC (c2 _) [4, 1]), (30, dC (c3 _) [1])] ?_
        exact (xRetC [])
/-- The first of them that p takes; or -1. -/
def ixF {α : Type} (p : α → Bool) : List α → Int
  | [] => -1
  | y :: l => if p y then 0 else if ixF p l < 0 then -1 else ixF p l + 1
theorem ixF_ge {α : Type} (p : α → Bool) : ∀ l : List α, -1 ≤ ixF p l
  | [] => by simp [ixF]
  | y :: l => by
    have := ixF_ge p l
    simp only [ixF]
    repeat' split <;> omega
theorem ixF_at {α : Type} (p : α → Bool) (z : α) : ∀ l : List α, (∃ k, k < l.length ∧ (∀ i, i < k → p (l.getD i z) = false) ∧ p (l.getD k z) = true ∧ ixF p l = (k : Int)) ∨ ((∀ i, i < l.length → p (l.getD i z) = false) ∧ ixF p l = -1)
  | [] => .inr ⟨fun i hi => absurd hi (Nat.not_lt_zero _), rfl⟩
  | y :: l => by
    cases e : p y
    · rcases ixF_at p z l with ⟨k, h1, h2, h3, h4⟩ | ⟨h1, h2⟩
      · refine .inl ⟨k + 1, by simpa using h1, fun i hi => ?_, by simpa using h3, ?_⟩
        · cases i with
          | zero => simpa using e
          | succ i => simpa using h2 i (by omega)
        · simp only [ixF, e, h4]
          rw [if_neg (by simp), if_neg (by omega)]
          omega
      · refine .inr ⟨fun i hi => ?_, by simp [ixF, e, h2]⟩
        cases i with
        | zero => simpa using e
        | succ i => simpa using h1 i (by simpa using hi)
    · exact .inl ⟨0, by simp, fun i hi => absurd hi (Nat.not_lt_zero _), by simpa using e, by simp [ixF, e]⟩
def matF (l : List Rul) (x : Flw) : Int := ixF (fun r => ruB r x) l
def rulNn (l : List Rul) : Prop := ∀ i, i < l.length → spNn (l.getD i ru0).s ∧ spNn (l.getD i ru0).d
theorem c_ixR (T : List Blk) (l : List Rul) (v : Value) (h : Hed) (hv : rulT T l v) (ho : rulOk l) (hn : rulNn l) : Ct S0 C 46 [vV v, vF (.func 47) [] [vP 0 0]] [tC (pkC h) 44, tX T] [] [] [] (vV (.int .i64 (matF l h.f))) := by
  obtain ⟨F, ⟨base, cap, b0, o, rfl, H⟩, hF⟩ := hv
  have hl := ho.1
  rcases ixF_at (fun r => ruB r h.f) ru0 l with ⟨k, k1, q0, q1, q2⟩ | ⟨q0, q2⟩
  · have q2 : matF l h.f = (k : Int) := q2
    rw [q2]
    refine xIn Try.f46 fun E0 w0 hL hC hk => ?_
    refine xR 12 [] ?_
    refine xLp (fun (x : Nat) => [(8, vV (.int .i64 (x : Int)))]) (fun x => []) [9, 10, 5, 11, 12, 13, 14, 15, 16, 17, 4, 18] (fun x => x ≤ k) (fun x => k - x) 0 (Nat.zero_le _) fun n d hx g => ?_
    have q3 : (n : Int) < (l.length : Int) := by omega
    have cP := fun C => c_m1 (C := C) T (l.getD n ru0) (F n) h (hF n (by omega)) (ho.2 n) (hn n (by omega)).1 (hn n (by omega)).2
    by_cases q4 : n = k
    · subst q4
      rw [q1] at cP
      clear q0 q1 q2 ho hn hF
      refine xR 29 [(0, dT q3), (6, dIxR 22 H cap n k1), (7, dLdR 67 1 H n k1), (8, dC (cP _) [0, 1])] ?_
      exact (xRetC [])
    · have q5 := q0 n (by omega)
      simp only [q5] at cP
      clear q0 q1 q2 ho hn hF q5
      refine xR 30 [(0, dT q3), (6, dIxR 22 H cap n (by omega)), (7, dLdR 67 1 H n (by omega)), (8, dC (cP _) [0, 1]), (9, dW ((↑n : Int) + 1) ((↑(n + 1) : Int)) (by omega) (by omega) (by omega))] ?_
      exact xNx g (n + 1) [9, 10, 5, 11, 12, 13, 14, 15, 16, 17, 4, 18] [0, 1] (by omega) (by omega)
  · have q2 : matF l h.f = -1 := q2
    rw [q2]
    refine xIn Try.f46 fun E0 w0 hL hC hk => ?_
    refine xR 12 [] ?_
    refine xLp (fun (x : Nat) => [(8, vV (.int .i64 (x : Int)))]) (fun x => []) [9, 10, 5, 11, 12, 13, 14, 15, 16, 17, 4, 18] (fun x => x ≤ l.length) (fun x => l.length - x) 0 (Nat.zero_le _) fun n d hx g => ?_
    by_cases q3 : (n : Int) < (l.length : Int)
    · have cP := fun C => c_m1 (C := C) T (l.getD n ru0) (F n) h (hF n (by omega)) (ho.2 n) (hn n (by omega)).1 (hn n (by omega)).2
      have q5 := q0 n (by omega)
      simp only [q5] at cP
      clear q0 q2 ho hn hF q5
      refine xR 30 [(0, dT q3), (6, dIxR 22 H cap n (by omega)), (7, dLdR 67 1 H n (by omega)), (8, dC (cP _) [0, 1]), (9, dW ((↑n : Int) + 1) ((↑(n + 1) : Int)) (by omega) (by omega) (by omega))] ?_
      exact xNx g (n + 1) [9, 10, 5, 11, 12, 13, 14, 15, 16, 17, 4, 18] [0, 1] (by omega) (by omega)
    · clear q0 q2 ho hn hF
      refine xR 11 [(0, dF q3)] ?_
      exact (xRetC [])
theorem c_Match (T : List Blk) (l : List Rul) (v : Value) (h : Hed) (hv : rulT T l v) (ho : rulOk l) (hn : rulNn l) : Ct S0 C 35 [vV v, hdS h] [tX T] [] [] [] (vV (.int .i64 (matF l h.f))) := by
  have cI := fun C => c_ixR (C := C) T l v h hv ho hn
  clear hn ho
  obtain ⟨F, ⟨base, cap, b0, o, rfl, H⟩, hF⟩ := hv
  clear H hF
  generalize matF l h.f = m at *
  refine xIn Try.f35 fun E0 w0 hL hC hk => ?_
  refine xR 12 [(4, dC (cI _) [1, 0])] ?_
  exact (xRetC [])
end Go.Proofs.Ytlfekknonjlopaa
