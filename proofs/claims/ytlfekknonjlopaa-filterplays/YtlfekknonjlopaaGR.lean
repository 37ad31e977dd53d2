/- Which rule matches: the document's answer is the same. -/
import Derived.Test.YtlfekknonjlopaaGQ
import Derived.Test.YtlfekknonjlopaaXZ
namespace Go.Proofs.Ytlfekknonjlopaa
open Go.RowKit
set_option linter.unusedVariables false
set_option linter.unusedSimpArgs false
set_option maxHeartbeats 0
set_option maxRecDepth 100000
variable {C : World → Prop}
theorem c_MatD (T : List Blk) (l : List Rul) (v : Value) (h : Hed) (hv : rulT T l v) (ho : rulOk l) : Ct S0 C 24 [vV v, hdS h] [tX T] [] [] [] (vV (.int .i64 (matF l h.f))) := by
  obtain ⟨F, ⟨base, cap, b0, o, rfl, H⟩, hF⟩ := hv
  have hl := ho.1
  rcases ixF_at (fun r => ruB r h.f) ru0 l with ⟨k, h1, h2, h3, h4⟩ | ⟨h1, h2⟩
  · have h4 : matF l h.f = (k : Int) := h4
    rw [h4]
    refine xIn Try.f24 fun E0 w0 hL hC hk => ?_
    refine xR 11 [] ?_
    refine xLp (fun (n : Nat) => [(5, vV (.int .i64 (n : Int)))]) (fun x => []) [6, 7, 8, 9, 12, 13, 14, 15, 16, 17, 18, 19, 20, 21, 22, 23, 24, 25, 26, 27, 28, 29, 30, 31, 32, 33, 34, 35, 36, 37, 38, 39, 40, 41, 42, 43, 44, 45, 46, 47, 4, 10, 11] (fun n => n ≤ k) (fun n => k - n) 0 (Nat.zero_le _) fun n d hx g => ?_
    have q3 : (n : Int) < (l.length : Int) := by omega
    obtain ⟨r0, r1, r2, r3⟩ := hF n (by omega)
    obtain ⟨o0, o1, o2, o3⟩ := ho.2 n
    have k1 : ∀ C, Ct S0 C 38 [vV (F n 0), vV (F n 3), flS h.f] [tX T] [] [] [] (vV (.bool (proB (l.getD n ru0).p h.f.p && porB (l.getD n ru0).t h.f))) := fun C => c_byD T (l.getD n ru0).p (F n 0) (l.getD n ru0).t (F n 3) h.f r0 r3 o0 o3
    have k2 : ∀ C, Ct S0 C 39 [vV (F n 1), adS h.f.s] [tX T] [] [] [] (vV (.bool ((l.getD n ru0).s.any fun s => inB s h.f.s))) := fun C => c_InD h.f.s T (l.getD n ru0).s (F n 1) r1 o1
    have k3 : ∀ C, Ct S0 C 39 [vV (F n 2), adS h.f.d] [tX T] [] [] [] (vV (.bool ((l.getD n ru0).d.any fun s => inB s h.f.d))) := fun C => c_InD h.f.d T (l.getD n ru0).d (F n 2) r2 o2
    clear r0 r1 r2 r3 o0 o1 o2 o3
    by_cases q4 : n = k
    · subst q4
      have hq : ruB (l.getD n ru0) h.f = true := h3
      simp only [ruB, Bool.and_eq_true] at hq
      obtain ⟨e1, e2, e3, e4⟩ := hq
      rw [e1, e4] at k1
      rw [e2] at k2
      rw [e3] at k3
      clear e1 e2 e3 e4 h2 h3
      refine xR 20 [(3, dT q3), (6, dIxR 22 H cap n h1), (8, dLdR1 63 0 H n 0 (o + n * 4) h1), (11, dIxR 22 H cap n h1), (13, dLdR1 65 0 H n 3 (o + n * 4 + 3) h1), (16, dC (k1 _) [0]), (20, dIxR 22 H cap n h1), (22, dLdR1 64 0 H n 1 (o + n * 4 + 1) h1), (26, dC (k2 _) [0]), (31, dIxR 22 H cap n h1), (33, dLdR1 64 0 H n 2 (o + n * 4 + 2) h1), (37, dC (k3 _) [0])] ?_
      exact (xRetC [])
    · clear h3 h4
      have hq : ruB (l.getD n ru0) h.f = false := h2 n (by omega)
      simp only [ruB] at hq
      generalize proB (l.getD n ru0).p h.f.p = m0 at k1 hq
      generalize porB (l.getD n ru0).t h.f = m1 at k1 hq
      generalize ((l.getD n ru0).s.any fun s => inB s h.f.s) = m2 at k2 hq
      generalize ((l.getD n ru0).d.any fun s => inB s h.f.d) = m3 at k3 hq
      cases hm : m0 && m1
      · rw [hm] at k1
        refine xR 22 [(3, dT q3), (6, dIxR 22 H cap n (by omega)), (8, dLdR1 63 0 H n 0 (o + n * 4) (by omega)), (11, dIxR 22 H cap n (by omega)), (13, dLdR1 65 0 H n 3 (o + n * 4 + 3) (by omega)), (16, dC (k1 _) [0]), (40, dW ((↑n : Int) + 1) ((↑(n + 1) : Int)) (by omega) (by omega) (by omega))] ?_
        exact xNx g (n + 1) [6, 7, 8, 9, 12, 13, 14, 15, 16, 17, 18, 19, 20, 21, 22, 23, 24, 25, 26, 27, 28, 29, 30, 31, 32, 33, 34, 35, 36, 37, 38, 39, 40, 41, 42, 43, 44, 45, 46, 47, 4, 10, 11] [0, 1] (by omega) (by omega)
      · rw [hm] at k1
        obtain ⟨rfl, rfl⟩ := Bool.and_eq_true_iff.1 hm
        clear hm
        cases m2
        · refine xR 22 [(3, dT q3), (6, dIxR 22 H cap n (by omega)), (8, dLdR1 63 0 H n 0 (o + n * 4) (by omega)), (11, dIxR 22 H cap n (by omega)), (13, dLdR1 65 0 H n 3 (o + n * 4 + 3) (by omega)), (16, dC (k1 _) [0]), (20, dIxR 22 H cap n (by omega)), (22, dLdR1 64 0 H n 1 (o + n * 4 + 1) (by omega)), (26, dC (k2 _) [0]), (40, dW ((↑n : Int) + 1) ((↑(n + 1) : Int)) (by omega) (by omega) (by omega))] ?_
          exact xNx g (n + 1) [6, 7, 8, 9, 12, 13, 14, 15, 16, 17, 18, 19, 20, 21, 22, 23, 24, 25, 26, 27, 28, 29, 30, 31, 32, 33, 34, 35, 36, 37, 38, 39, 40, 41, 42, 43, 44, 45, 46, 47, 4, 10, 11] [0, 1] (by omega) (by omega)
        · cases m3
          · refine xR 22 [(3, dT q3), (6, dIxR 22 H cap n (by omega)), (8, dLdR1 63 0 H n 0 (o + n * 4) (by omega)), (11, dIxR 22 H cap n (by omega)), (13, dLdR1 65 0 H n 3 (o + n * 4 + 3) (by omega)), (16, dC (k1 _) [0]), (20, dIxR 22 H cap n (by omega)), (22, dLdR1 64 0 H n 1 (o + n * 4 + 1) (by omega)), (26, dC (k2 _) [0]), (31, dIxR 22 H cap n (by omega)), (33, dLdR1 64 0 H n 2 (o + n * 4 + 2) (by omega)), (37, dC (k3 _) [0]), (40, dW ((↑n : Int) + 1) ((↑(n + 1) : Int)) (by omega) (by omega) (by omega))] ?_
            exact xNx g (n + 1) [6, 7, 8, 9, 12, 13, 14, 15, 16, 17, 18, 19, 20, 21, 22, 23, 24, 25, 26, 27, 28, 29, 30, 31, 32, 33, 34, 35, 36, 37, 38, 39, 40, 41, 42, 43, 44, 45, 46, 47, 4, 10, 11] [0, 1] (by omega) (by omega)
          · cases hq
  · have h2 : matF l h.f = -1 := h2
    rw [h2]
    refine xIn Try.f24 fun E0 w0 hL hC hk => ?_
    refine xR 11 [] ?_
    refine xLp (fun (n : Nat) => [(5, vV (.int .i64 (n : Int)))]) (fun x => []) [6, 7, 8, 9, 12, 13, 14, 15, 16, 17, 18, 19, 20, 21, 22, 23, 24, 25, 26, 27, 28, 29, 30, 31, 32, 33, 34, 35, 36, 37, 38, 39, 40, 41, 42, 43, 44, 45, 46, 47, 4, 10, 11] (fun n => n ≤ l.length) (fun n => l.length - n) 0 (Nat.zero_le _) fun n d hx g => ?_
    by_cases q3 : (n : Int) < (l.length : Int)
    · clear h2
      obtain ⟨r0, r1, r2, r3⟩ := hF n (by omega)
      obtain ⟨o0, o1, o2, o3⟩ := ho.2 n
      have k1 : ∀ C, Ct S0 C 38 [vV (F n 0), vV (F n 3), flS h.f] [tX T] [] [] [] (vV (.bool (proB (l.getD n ru0).p h.f.p && porB (l.getD n ru0).t h.f))) := fun C => c_byD T (l.getD n ru0).p (F n 0) (l.getD n ru0).t (F n 3) h.f r0 r3 o0 o3
      have k2 : ∀ C, Ct S0 C 39 [vV (F n 1), adS h.f.s] [tX T] [] [] [] (vV (.bool ((l.getD n ru0).s.any fun s => inB s h.f.s))) := fun C => c_InD h.f.s T (l.getD n ru0).s (F n 1) r1 o1
      have k3 : ∀ C, Ct S0 C 39 [vV (F n 2), adS h.f.d] [tX T] [] [] [] (vV (.bool ((l.getD n ru0).d.any fun s => inB s h.f.d))) := fun C => c_InD h.f.d T (l.getD n ru0).d (F n 2) r2 o2
      clear r0 r1 r2 r3 o0 o1 o2 o3
      have hq : ruB (l.getD n ru0) h.f = false := h1 n (by omega)
      simp only [ruB] at hq
      generalize proB (l.getD n ru0).p h.f.p = m0 at k1 hq
      generalize porB (l.getD n ru0).t h.f = m1 at k1 hq
      generalize ((l.getD n ru0).s.any fun s => inB s h.f.s) = m2 at k2 hq
      generalize ((l.getD n ru0).d.any fun s => inB s h.f.d) = m3 at k3 hq
      cases hm : m0 && m1
      · rw [hm] at k1
        refine xR 22 [(3, dT q3), (6, dIxR 22 H cap n (by omega)), (8, dLdR1 63 0 H n 0 (o + n * 4) (by omega)), (11, dIxR 22 H cap n (by omega)), (13, dLdR1 65 0 H n 3 (o + n * 4 + 3) (by omega)), (16, dC (k1 _) [0]), (40, dW ((↑n : Int) + 1) ((↑(n + 1) : Int)) (by omega) (by omega) (by omega))] ?_
        exact xNx g (n + 1) [6, 7, 8, 9, 12, 13, 14, 15, 16, 17, 18, 19, 20, 21, 22, 23, 24, 25, 26, 27, 28, 29, 30, 31, 32, 33, 34, 35, 36, 37, 38, 39, 40, 41, 42, 43, 44, 45, 46, 47, 4, 10, 11] [0, 1] (by omega) (by omega)
      · rw [hm] at k1
        obtain ⟨rfl, rfl⟩ := Bool.and_eq_true_iff.1 hm
        clear hm
        cases m2
        · refine xR 22 [(3, dT q3), (6, dIxR 22 H cap n (by omega)), (8, dLdR1 63 0 H n 0 (o + n * 4) (by omega)), (11, dIxR 22 H cap n (by omega)), (13, dLdR1 65 0 H n 3 (o + n * 4 + 3) (by omega)), (16, dC (k1 _) [0]), (20, dIxR 22 H cap n (by omega)), (22, dLdR1 64 0 H n 1 (o + n * 4 + 1) (by omega)), (26, dC (k2 _) [0]), (40, dW ((↑n : Int) + 1) ((↑(n + 1) : Int)) (by omega) (by omega) (by omega))] ?_
          exact xNx g (n + 1) [6, 7, 8, 9, 12, 13, 14, 15, 16, 17, 18, 19, 20, 21, 22, 23, 24, 25, 26, 27, 28, 29, 30, 31, 32, 33, 34, 35, 36, 37, 38, 39, 40, 41, 42, 43, 44, 45, 46, 47, 4, 10, 11] [0, 1] (by omega) (by omega)
        · cases m3
          · refine xR 22 [(3, dT q3), (6, dIxR 22 H cap n (by omega)), (8, dLdR1 63 0 H n 0 (o + n * 4) (by omega)), (11, dIxR 22 H cap n (by omega)), (13, dLdR1 65 0 H n 3 (o + n * 4 + 3) (by omega)), (16, dC (k1 _) [0]), (20, dIxR 22 H cap n (by omega)), (22, dLdR1 64 0 H n 1 (o + n * 4 + 1) (by omega)), (26, dC (k2 _) [0]), (31, dIxR 22 H cap n (by omega)), (33, dLdR1 64 0 H n 2 (o + n * 4 + 2) (by omega)), (37, dC (k3 _) [0]), (40, dW ((↑n : Int) + 1) ((↑(n + 1) : Int)) (by omega) (by omega) (by omega))] ?_
            exact xNx g (n + 1) [6, 7, 8, 9, 12, 13, 14, 15, 16, 17, 18, 19, 20, 21, 22, 23, 24, 25, 26, 27, 28, 29, 30, 31, 32, 33, 34, 35, 36, 37, 38, 39, 40, 41, 42, 43, 44, 45, 46, 47, 4, 10, 11] [0, 1] (by omega) (by omega)
          · cases hq
    · refine xR 14 [(3, dF q3)] ?_
      exact (xRetC [])
end Go.Proofs.Ytlfekknonjlopaa
