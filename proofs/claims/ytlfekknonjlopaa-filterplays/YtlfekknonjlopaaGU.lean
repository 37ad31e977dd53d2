/- What is still awaited: the law's own list. -/
import Derived.Test.YtlfekknonjlopaaGR
import Derived.Test.YtlfekknonjlopaaXZ
namespace Go.Proofs.Ytlfekknonjlopaa
open Go.RowKit
set_option linter.unusedVariables false
set_option linter.unusedSimpArgs false
set_option maxHeartbeats 0
set_option maxRecDepth 100000
variable {C : World → Prop}
abbrev lvF (L : List Liv) : Nat → Nat → Value := fun i j => (lvC (L.getD i lv0.2)).getD j undef
theorem livD_sl {L : List Liv} {v : Value} {T : List Blk} (h : livD L v T) : Sl T 10 L.length (lvF L) v := by
  obtain ⟨F, h1, h2⟩ := h.sl
  refine h1.congr fun i j hi hj => ?_
  have hg : L[i]? = some (L.getD i lv0.2) := by rw [List.getD_eq_getElem?_getD, List.getElem?_eq_getElem hi]; rfl
  obtain ⟨cs, Te, ⟨rfl, -⟩, -, h3, -⟩ := h2 i _ hg
  have hl : (lvC (L.getD i lv0.2)).length = 10 := rfl
  rw [h3 j _ (List.getElem?_eq_getElem (by omega))]
  show _ = (lvC (L.getD i lv0.2)).getD j undef
  rw [List.getD_eq_getElem?_getD (l := lvC (L.getD i lv0.2)), List.getElem?_eq_getElem (by omega)]
  rfl
def awB (L : List Liv) (x : Flw) (life hi : Int) : Bool := L.any fun e => decide (e.f = x) && decide (e.u + life > hi)
theorem u64_sum {u lf : Int} (h0 : 0 ≤ u) (h1 : u < 4611686018427387904) (h2 : 0 ≤ lf) (h3 : lf ≤ 65535) : IntKind.wrap .u64 (IntKind.wrap .u64 (u + IntKind.wrap .u64 lf) + 1) = u + (lf + 1) := by
  rw [w64 (x := lf) h2 (by omega), w64 (x := u + lf) (by omega) (by omega), w64 (by omega) (by omega)]
  omega
theorem c_livesT (T : List Blk) (L : List Liv) (v : Value) (x : Flw) (lf hi : Int) (hv : Sl T 10 L.length (lvF L) v) (hl : L.length ≤ 1048576) (h2 : 0 ≤ lf) (h3 : lf ≤ 65535) (hu : ∀ i, i < L.length → 0 ≤ (L.getD i lv0.2).u ∧ (L.getD i lv0.2).u < 4611686018427387904) : Ct S0 C 22 [flS x, vP 0 0, vP 1 0, vP 2 0] [tC [vV v] 34, tC [vV (.int .u16 lf)] 40, tC [vV (.int .u64 hi)] 23, tX T] [] [] [] (vV (.bool (awB L x (lf + 1) hi))) := by
  obtain ⟨base, cap, b0, o, rfl, H⟩ := hv
  rcases fst_ix (fun e : Liv => decide (e.f = x) && decide (e.u + (lf + 1) > hi)) lv0.2 L with ⟨k, k1, k2, k3, k4⟩ | ⟨k1, k2⟩
  · have k4 : awB L x (lf + 1) hi = true := k4
    rw [k4]
    refine xIn Try.f22 fun E0 w0 hL hC hk => ?_
    refine xR 11 [] ?_
    refine xLp (fun (n : Nat) => [(6, vV (.int .i64 (n : Int)))]) (fun x => []) [7, 8, 9, 10, 13, 14, 15, 16, 17, 18, 19, 20, 21, 22, 23, 24, 25, 26, 27, 28, 29, 30, 31, 32, 5, 11, 12] (fun n => n ≤ k) (fun n => k - n) 0 (Nat.zero_le _) fun n d hx g => ?_
    have q3 : (n : Int) < (L.length : Int) := by omega
    by_cases q4 : n = k
    · subst q4
      obtain ⟨u0, u1⟩ := hu n k1
      have e0 : (decide ((L.getD n lv0.2).f = x) && decide ((L.getD n lv0.2).u + (lf + 1) > hi)) = true := k3
      rw [Bool.and_eq_true, decide_eq_true_iff, decide_eq_true_iff, ← u64_sum u0 u1 h2 h3] at e0
      obtain ⟨m1, e0⟩ := e0
      refine xR 19 [(3, dT q3), (6, dIxR 34 H cap n k1), (8, dLdRp 42 3 H n 0 9 (o + n * 10) k1), (10, dEq42 ((L.getD n lv0.snd).f.p) ((L.getD n lv0.snd).f.s.v) ((L.getD n lv0.snd).f.s.h) ((L.getD n lv0.snd).f.s.l) ((L.getD n lv0.snd).f.d.v) ((L.getD n lv0.snd).f.d.h) ((L.getD n lv0.snd).f.d.l) ((L.getD n lv0.snd).f.fr) ((L.getD n lv0.snd).f.to) x.p x.s.v x.s.h x.s.l x.d.v x.d.h x.d.l x.fr x.to _ rfl), (11, dT m1), (14, dIxR 34 H cap n k1), (16, dLdR1 23 3 H n 9 (o + n * 10 + 9) k1), (22, dT e0)] ?_
      exact (xRetC [])
    · skip
      have e0 : (decide ((L.getD n lv0.2).f = x) && decide ((L.getD n lv0.2).u + (lf + 1) > hi)) = false := k2 n (by omega)
      obtain ⟨u0, u1⟩ := hu n (by omega)
      by_cases m1 : (L.getD n lv0.2).f = x
      · rw [decide_eq_true m1, Bool.true_and, decide_eq_false_iff_not, ← u64_sum u0 u1 h2 h3] at e0
        refine xR 22 [(3, dT q3), (6, dIxR 34 H cap n (by omega)), (8, dLdRp 42 3 H n 0 9 (o + n * 10) (by omega)), (10, dEq42 ((L.getD n lv0.snd).f.p) ((L.getD n lv0.snd).f.s.v) ((L.getD n lv0.snd).f.s.h) ((L.getD n lv0.snd).f.s.l) ((L.getD n lv0.snd).f.d.v) ((L.getD n lv0.snd).f.d.h) ((L.getD n lv0.snd).f.d.l) ((L.getD n lv0.snd).f.fr) ((L.getD n lv0.snd).f.to) x.p x.s.v x.s.h x.s.l x.d.v x.d.h x.d.l x.fr x.to _ rfl), (11, dT m1), (14, dIxR 34 H cap n (by omega)), (16, dLdR1 23 3 H n 9 (o + n * 10 + 9) (by omega)), (22, dF e0), (25, dW ((↑n : Int) + 1) ((↑(n + 1) : Int)) (by omega) (by omega) (by omega))] ?_
        exact xNx g (n + 1) [7, 8, 9, 10, 13, 14, 15, 16, 17, 18, 19, 20, 21, 22, 23, 24, 25, 26, 27, 28, 29, 30, 31, 32, 5, 11, 12] [0, 1, 2, 3, 4] (by omega) (by omega)
      · clear e0
        refine xR 22 [(3, dT q3), (6, dIxR 34 H cap n (by omega)), (8, dLdRp 42 3 H n 0 9 (o + n * 10) (by omega)), (10, dEq42 ((L.getD n lv0.snd).f.p) ((L.getD n lv0.snd).f.s.v) ((L.getD n lv0.snd).f.s.h) ((L.getD n lv0.snd).f.s.l) ((L.getD n lv0.snd).f.d.v) ((L.getD n lv0.snd).f.d.h) ((L.getD n lv0.snd).f.d.l) ((L.getD n lv0.snd).f.fr) ((L.getD n lv0.snd).f.to) x.p x.s.v x.s.h x.s.l x.d.v x.d.h x.d.l x.fr x.to _ rfl), (11, dF m1), (25, dW ((↑n : Int) + 1) ((↑(n + 1) : Int)) (by omega) (by omega) (by omega))] ?_
        exact xNx g (n + 1) [7, 8, 9, 10, 13, 14, 15, 16, 17, 18, 19, 20, 21, 22, 23, 24, 25, 26, 27, 28, 29, 30, 31, 32, 5, 11, 12] [0, 1, 2, 3, 4] (by omega) (by omega)
  · have k2 : awB L x (lf + 1) hi = false := k2
    rw [k2]
    refine xIn Try.f22 fun E0 w0 hL hC hk => ?_
    refine xR 11 [] ?_
    refine xLp (fun (n : Nat) => [(6, vV (.int .i64 (n : Int)))]) (fun x => []) [7, 8, 9, 10, 13, 14, 15, 16, 17, 18, 19, 20, 21, 22, 23, 24, 25, 26, 27, 28, 29, 30, 31, 32, 5, 11, 12] (fun n => n ≤ L.length) (fun n => L.length - n) 0 (Nat.zero_le _) fun n d hx g => ?_
    by_cases q3 : (n : Int) < (L.length : Int)
    · skip
      have e0 : (decide ((L.getD n lv0.2).f = x) && decide ((L.getD n lv0.2).u + (lf + 1) > hi)) = false := k1 n (by omega)
      obtain ⟨u0, u1⟩ := hu n (by omega)
      by_cases m1 : (L.getD n lv0.2).f = x
      · rw [decide_eq_true m1, Bool.true_and, decide_eq_false_iff_not, ← u64_sum u0 u1 h2 h3] at e0
        refine xR 22 [(3, dT q3), (6, dIxR 34 H cap n (by omega)), (8, dLdRp 42 3 H n 0 9 (o + n * 10) (by omega)), (10, dEq42 ((L.getD n lv0.snd).f.p) ((L.getD n lv0.snd).f.s.v) ((L.getD n lv0.snd).f.s.h) ((L.getD n lv0.snd).f.s.l) ((L.getD n lv0.snd).f.d.v) ((L.getD n lv0.snd).f.d.h) ((L.getD n lv0.snd).f.d.l) ((L.getD n lv0.snd).f.fr) ((L.getD n lv0.snd).f.to) x.p x.s.v x.s.h x.s.l x.d.v x.d.h x.d.l x.fr x.to _ rfl), (11, dT m1), (14, dIxR 34 H cap n (by omega)), (16, dLdR1 23 3 H n 9 (o + n * 10 + 9) (by omega)), (22, dF e0), (25, dW ((↑n : Int) + 1) ((↑(n + 1) : Int)) (by omega) (by omega) (by omega))] ?_
        exact xNx g (n + 1) [7, 8, 9, 10, 13, 14, 15, 16, 17, 18, 19, 20, 21, 22, 23, 24, 25, 26, 27, 28, 29, 30, 31, 32, 5, 11, 12] [0, 1, 2, 3, 4] (by omega) (by omega)
      · clear e0
        refine xR 22 [(3, dT q3), (6, dIxR 34 H cap n (by omega)), (8, dLdRp 42 3 H n 0 9 (o + n * 10) (by omega)), (10, dEq42 ((L.getD n lv0.snd).f.p) ((L.getD n lv0.snd).f.s.v) ((L.getD n lv0.snd).f.s.h) ((L.getD n lv0.snd).f.s.l) ((L.getD n lv0.snd).f.d.v) ((L.getD n lv0.snd).f.d.h) ((L.getD n lv0.snd).f.d.l) ((L.getD n lv0.snd).f.fr) ((L.getD n lv0.snd).f.to) x.p x.s.v x.s.h x.s.l x.d.v x.d.h x.d.l x.fr x.to _ rfl), (11, dF m1), (25, dW ((↑n : Int) + 1) ((↑(n + 1) : Int)) (by omega) (by omega) (by omega))] ?_
        exact xNx g (n + 1) [7, 8, 9, 10, 13, 14, 15, 16, 17, 18, 19, 20, 21, 22, 23, 24, 25, 26, 27, 28, 29, 30, 31, 32, 5, 11, 12] [0, 1, 2, 3, 4] (by omega) (by omega)
    · refine xR 14 [(3, dF q3)] ?_
      exact (xRetC [])
/-- A contract on memory that is looked at, as one on data. -/
theorem ct_liftG {f : FuncId} {r : SV} {xs : List SV} {R : List It} (D : DP) (i : Nat) (args : Value → List SV) (R' : Value → List Blk → List It) (hi : (i, tD D) ∈ ix 0 R) (hden : ∀ E : Nat → Ent, xs.map (SV.den E) = (args (E i).v).map (SV.den E))
    (hR : ∀ E : Nat → Ent, denP E (ix 0 R) = denP E (ix 0 (R' (E i).v (E i).T))) (hok : ∀ (E : Nat → Ent) v T, okP E (ix 0 (R' v T))) (h : ∀ v T, D v T → Ct S0 C f (args v) (R' v T) [] [] [] r) : Ct S0 C f xs R [] [] [] r := by
  refine ⟨fun E w hL hC T hk => ?_⟩
  have e0 : ∀ m : List It, m ++ ([] : List It) = m := fun m => List.append_nil _
  have e1 : ∀ m : List It, postC m [] [] [] = ix 0 m := fun m => by simp [postC, ix]
  rw [e0] at T hk
  have hD : D (E i).v (E i).T := hk _ hi
  have key := (h _ _ hD).out E w hL (by rw [e0, ← hR E]; rw [e0] at hC; exact hC) (by rw [e0, ← hR E]; exact T) (by rw [e0]; exact hok _ _ _)
  have hs : ((oCall f (args (E i).v)).sem E).run Try.prog w = ((oCall f xs).sem E).run Try.prog w := by
    show (callFunc f ((args (E i).v).map (SV.den E)).toArray).run Try.prog w = (callFunc f (xs.map (SV.den E)).toArray).run Try.prog w
    rw [hden E]
  rw [hs] at key
  refine key.mono ?_
  rintro x w' ⟨E', a1, a2, a3, a4⟩
  obtain rfl : E' = E := funext fun j => a1 j (by rw [← Bool.not_eq_true, newAt_iff]; simp only [List.length_nil]; omega)
  rw [e1, e0, ← hR E'] at a4
  exact ⟨E', fun _ _ => rfl, by rw [e1]; exact hk, a3, by rw [e1, e0]; exact a4⟩
theorem c_lives (L : List Liv) (x : Flw) (lf hi : Int) (hl : L.length ≤ 1048576) (h2 : 0 ≤ lf) (h3 : lf ≤ 65535) (hu : ∀ i, i < L.length → 0 ≤ (L.getD i lv0.2).u ∧ (L.getD i lv0.2).u < 4611686018427387904) : Ct S0 C 22 [flS x, vP 0 0, vP 1 0, vP 2 0] [tC [vW 3] 34, tC [vV (.int .u16 lf)] 40, tC [vV (.int .u64 hi)] 23, tD (livD L)] [] [] [] (vV (.bool (awB L x (lf + 1) hi))) :=
  ct_liftG (livD L) 3 (fun _ => [flS x, vP 0 0, vP 1 0, vP 2 0]) (fun v T => [tC [vV v] 34, tC [vV (.int .u16 lf)] 40, tC [vV (.int .u64 hi)] 23, tX T]) (by simp [ix]) (fun E => rfl) (fun E => rfl) (fun E v T p hp => by
    simp [ix] at hp
    rcases hp with rfl | rfl | rfl | rfl <;> trivial) fun v T hv => c_livesT T L v x lf hi (livD_sl hv) hl h2 h3 hu
end Go.Proofs.Ytlfekknonjlopaa
