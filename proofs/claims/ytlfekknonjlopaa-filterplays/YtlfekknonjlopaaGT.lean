/- FilterPlays: whether the rules are the same. -/
import Derived.Test.YtlfekknonjlopaaGS
import Derived.Test.YtlfekknonjlopaaXZ
namespace Go.Proofs.Ytlfekknonjlopaa
open Go.RowKit
set_option linter.unusedVariables false
set_option linter.unusedSimpArgs false
set_option maxHeartbeats 0
set_option maxRecDepth 100000
variable {C : World → Prop}
abbrev slF (l : List Rul) (bs : Nat → Nat → Option Addr × Nat) : Nat → Nat → Value := fun i j => [Value.slice (bs i 0).1 (l.getD i ru0).p.length (bs i 0).2, .slice (bs i 1).1 (l.getD i ru0).s.length (bs i 1).2, .slice (bs i 2).1 (l.getD i ru0).d.length (bs i 2).2, .slice (bs i 3).1 (l.getD i ru0).t.length (bs i 3).2].getD j undef
theorem rul_sl {T : List Blk} {l : List Rul} {v : Value} (h : rulT T l v) : ∃ bs : Nat → Nat → Option Addr × Nat, Sl T 4 l.length (slF l bs) v ∧ ∀ i, i < l.length → RulI T (l.getD i ru0) (slF l bs i) := by
  obtain ⟨F, h1, h2⟩ := h
  have hb : ∀ i, ∃ p : Nat → Option Addr × Nat, i < l.length → ∀ j, j < 4 → F i j = [Value.slice (p 0).1 (l.getD i ru0).p.length (p 0).2, .slice (p 1).1 (l.getD i ru0).s.length (p 1).2, .slice (p 2).1 (l.getD i ru0).d.length (p 2).2, .slice (p 3).1 (l.getD i ru0).t.length (p 3).2].getD j undef := fun i => by
    by_cases hi : i < l.length
    · obtain ⟨⟨a0, c0, g0, o0, e0, -⟩, ⟨a1, c1, g1, o1, e1, -⟩, ⟨a2, c2, g2, o2, e2, -⟩, ⟨a3, c3, g3, o3, e3, -⟩⟩ := h2 i hi
      refine ⟨fun j => [(a0, c0), (a1, c1), (a2, c2), (a3, c3)].getD j (none, 0), fun _ j hj => ?_⟩
      match j, hj with
      | 0, _ => exact e0
      | 1, _ => exact e1
      | 2, _ => exact e2
      | 3, _ => exact e3
    · exact ⟨fun _ => (none, 0), fun h => absurd h hi⟩
  obtain ⟨bs, hbs⟩ := Classical.axiomOfChoice hb
  refine ⟨bs, h1.congr fun i j hi hj => hbs i hi j hj, fun i hi => ?_⟩
  have h3 := h2 i hi
  have e : ∀ j, j < 4 → F i j = slF l bs i j := hbs i hi
  exact ⟨by rw [← e 0 (by omega)]; exact h3.p, by rw [← e 1 (by omega)]; exact h3.s, by rw [← e 2 (by omega)]; exact h3.d, by rw [← e 3 (by omega)]; exact h3.t⟩
theorem sl_o {T : List Blk} {K n : Nat} {F : Nat → Nat → Value} {base : Option Addr} {cap : Nat} (h : Sl T K n F (.slice base n cap)) : ∃ g o, SlO T K n F base g o := by
  obtain ⟨b, c, g, o, e, H⟩ := h
  simp only [Value.slice.injEq] at e
  obtain ⟨rfl, -, rfl⟩ := e
  exact ⟨g, o, H⟩
theorem slo1 {T : List Blk} {l : List Int} {base : Option Addr} {g o : Nat} (H : SlO T 1 l.length (u8F l) base g o) : SlO T 1 l.length (fun i _ => .int .u8 (l.getD i 0)) base g o := fun h => by
  obtain ⟨h1, Z, e, fr, h2, h3⟩ := H h
  exact ⟨h1, Z, e, fr, h2, fun i j hi hj => by
    have hj0 : j = 0 := by omega
    subst hj0
    exact h3 i 0 hi (by omega)⟩
theorem c_sameRT (T : List Blk) (l : List Rul) (v u : Value) (hv : rulT T l v) (hu : rulT T l u) (ho : rulOk l) : Ct S0 C 21 [vV v, vV u] [tX T] [] [] [] (vV (.bool true)) := by
  obtain ⟨bs, ⟨base, cap, b0, o, rfl, H⟩, hF⟩ := rul_sl hv
  obtain ⟨bs2, ⟨base2, cap2, b2, o2, rfl, H2⟩, hF2⟩ := rul_sl hu
  have hl := ho.1
  clear hv hu
  refine xIn Try.f21 fun E0 w0 hL hC hk => ?_
  have h1 : ((l.length : Int) != (l.length : Int)) = false := by simp
  refine xR 21 [(5, dB h1)] ?_
  refine xLp (fun (n : Nat) => [(5, vV (.int .i64 (n : Int)))]) (fun x => []) [15, 16, 17, 18, 21, 22, 23, 24, 25, 26, 27, 28, 6, 7, 29, 30, 31, 32, 33, 34, 35, 36, 37, 38, 39, 40, 41, 42, 43, 44, 45, 46, 47, 48, 49, 50, 51, 52, 53, 54, 55, 56, 57, 58, 59, 60, 4, 8, 61, 62, 63, 64, 65, 68, 69, 70, 71, 72, 73, 74, 75, 76, 77, 78, 66, 67, 9, 79, 80, 81, 82, 83, 86, 87, 88, 89, 90, 91, 92, 93, 94, 95, 96, 84, 85, 19, 20] (fun n => n ≤ l.length) (fun n => l.length - n) 0 (Nat.zero_le _) fun n d hx g => ?_
  by_cases q3 : (n : Int) < (l.length : Int)
  · obtain ⟨r0, r1, r2, r3⟩ := hF n (by omega)
    obtain ⟨t0, t1, t2, t3⟩ := hF2 n (by omega)
    obtain ⟨o0, o1, o2', o3⟩ := ho.2 n
    have cS := fun C => c_sameST (C := C) T (l.getD n ru0).s _ _ r1 t1 o1
    have cD := fun C => c_sameST (C := C) T (l.getD n ru0).d _ _ r2 t2 o2'
    have hp : (((l.getD n ru0).p.length : Int) != ((l.getD n ru0).p.length : Int)) = false := by simp
    have ht : (((l.getD n ru0).t.length : Int) != ((l.getD n ru0).t.length : Int)) = false := by simp
    refine xR 58 [(3, dT q3), (6, dIxR 22 H cap n (by omega)), (7, dLdR 67 0 H n (by omega)), (10, dIxR 22 H2 cap2 n (by omega)), (11, dLdR 67 0 H2 n (by omega)), (22, dB hp), (30, dB ht), (37, dC (cS _) [0]), (45, dC (cD _) [0])] ?_
    obtain ⟨ga, oa, Ka⟩ := sl_o r0
    obtain ⟨gb, ob, Kb⟩ := sl_o t0
    replace Ka := slo1 Ka
    replace Kb := slo1 Kb
    refine xLp (fun (m : Nat) => [(8, vV (.int .i64 (m : Int)))]) (fun x => []) [61, 62, 63, 64, 65, 68, 69, 70, 71, 72, 73, 74, 75, 76, 77, 78, 4, 66, 67] (fun m => m ≤ (l.getD n ru0).p.length) (fun m => (l.getD n ru0).p.length - m) 0 (Nat.zero_le _) fun m d2 hx2 g2 => ?_
    have hlp : (l.getD n ru0).p.length ≤ 1048576 := o0
    by_cases q5 : (m : Int) < ((l.getD n ru0).p.length : Int)
    · have hm : ((l.getD n ru0).p.getD m 0 != (l.getD n ru0).p.getD m 0) = false := by simp
      refine xR 23 [(4, dT q5), (8, dIxR 63 Ka ((bs n 0).snd) m (by omega)), (9, dLdR1 5 0 Ka m 0 (oa + m * 1) (by omega)), (13, dIxR 63 Kb ((bs2 n 0).snd) m (by omega)), (14, dLdR1 5 0 Kb m 0 (ob + m * 1) (by omega)), (15, dB hm), (17, dW ((↑m : Int) + 1) ((↑(m + 1) : Int)) (by omega) (by omega) (by omega))] ?_
      exact xNx g2 (m + 1) [61, 62, 63, 64, 65, 68, 69, 70, 71, 72, 73, 74, 75, 76, 77, 78, 4, 66, 67] [0, 1, 2] (by omega) (by omega)
    · refine xR 16 [(4, dF q5)] ?_
      obtain ⟨gc, oc, Kc⟩ := sl_o r3
      obtain ⟨gd, od, Kd⟩ := sl_o t3
      have Kc : SlO T 2 (l.getD n ru0).t.length (fun i j => [Value.int .u16 ((l.getD n ru0).t.getD i pt0).1, .int .u16 ((l.getD n ru0).t.getD i pt0).2].getD j undef) (bs n 3).1 gc oc := Kc
      have Kd : SlO T 2 (l.getD n ru0).t.length (fun i j => [Value.int .u16 ((l.getD n ru0).t.getD i pt0).1, .int .u16 ((l.getD n ru0).t.getD i pt0).2].getD j undef) (bs2 n 3).1 gd od := Kd
      refine xLp (fun (k : Nat) => [(9, vV (.int .i64 (k : Int)))]) (fun x => []) [79, 80, 81, 82, 83, 86, 87, 88, 89, 90, 91, 92, 93, 94, 95, 96, 4, 84, 85] (fun k => k ≤ (l.getD n ru0).t.length) (fun k => (l.getD n ru0).t.length - k) 0 (Nat.zero_le _) fun k d3 hx3 g3 => ?_
      have hlt : (l.getD n ru0).t.length ≤ 1048576 := o3
      by_cases q6 : (k : Int) < ((l.getD n ru0).t.length : Int)
      · refine xR 15 [(4, dT q6), (8, dIxR 65 Kc ((bs n 3).snd) k (by omega)), (9, dLdR 75 0 Kc k (by omega)), (13, dIxR 65 Kd ((bs2 n 3).snd) k (by omega)), (14, dLdR 75 0 Kd k (by omega)), (15, dSm75 ((l.getD n ru0).t.getD k pt0))] ?_
        refine xR 8 [(1, dW ((↑k : Int) + 1) ((↑(k + 1) : Int)) (by omega) (by omega) (by omega))] ?_
        exact xNx g3 (k + 1) [79, 80, 81, 82, 83, 86, 87, 88, 89, 90, 91, 92, 93, 94, 95, 96, 4, 84, 85] [0, 1, 2] (by omega) (by omega)
      · refine xR 17 [(4, dF q6), (6, dW ((↑n : Int) + 1) ((↑(n + 1) : Int)) (by omega) (by omega) (by omega))] ?_
        exact xNx g (n + 1) [15, 16, 17, 18, 21, 22, 23, 24, 25, 26, 27, 28, 6, 7, 29, 30, 31, 32, 33, 34, 35, 36, 37, 38, 39, 40, 41, 42, 43, 44, 45, 46, 47, 48, 49, 50, 51, 52, 53, 54, 55, 56, 57, 58, 59, 60, 4, 8, 61, 62, 63, 64, 65, 68, 69, 70, 71, 72, 73, 74, 75, 76, 77, 78, 66, 67, 9, 79, 80, 81, 82, 83, 86, 87, 88, 89, 90, 91, 92, 93, 94, 95, 96, 84, 85, 19, 20] [0] (by omega) (by omega)
  · refine xR 14 [(3, dF q3)] ?_
    exact (xRetC [])
theorem rulT_sub {T T' : List Blk} {l : List Rul} {v : Value} (h : rulT T l v) (hs : ∀ b ∈ T, b ∈ T') : rulT T' l v := by
  obtain ⟨F, h1, h2⟩ := h
  exact ⟨F, h1.sub hs, fun i hi => (h2 i hi).sub hs⟩
theorem c_sameR (T : List Blk) (l : List Rul) (u : Value) (hu : rulT T l u) (ho : rulOk l) : Ct S0 C 21 [vW 0, vV u] [tD (rulD l), tX T] [] [] [] (vV (.bool true)) :=
  ct_liftG (rulD l) 0 (fun v => [vV v, vV u]) (fun v T' => [tX (T' ++ T)]) (by simp [ix]) (fun E => rfl) (fun E => by
    show (E 0).T ++ (T ++ []) = ((E 0).T ++ T) ++ []
    simp) (fun E v T p hp => by
    simp [ix] at hp
    subst hp
    trivial) fun v T' hv => c_sameRT (T' ++ T) l v u (rulT_sub (rulD_T hv) fun b hb => List.mem_append_left _ hb) (rulT_sub hu fun b hb => List.mem_append_right _ hb) ho
theorem c_sameL (L : List Liv) (hl : L.length ≤ 1048576) : Ct S0 C 19 [vW 0, vW 1] [tD (livD L), tD (livD L)] [] [] [] (vV (.bool true)) :=
  ct_join 2 (fun _ => livD L) [vW 0, vW 1] (fun v => [vV (v 0), vV (v 1)]) (fun E => rfl) rfl fun v T h => c_sameLT _ L (v 0) (v 1)
    ((livD_sl (h 0 (by omega))).sub fun b hb => List.mem_flatMap.2 ⟨0, by simp, hb⟩) ((livD_sl (h 1 (by omega))).sub fun b hb => List.mem_flatMap.2 ⟨1, by simp, hb⟩) hl
end Go.Proofs.Ytlfekknonjlopaa
