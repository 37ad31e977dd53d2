/- Copies that the filter makes. -/
import Derived.Test.YtlfekknonjlopaaGB
import Derived.Test.YtlfekknonjlopaaXZ
namespace Go.Proofs.Ytlfekknonjlopaa
open Go.RowKit
set_option linter.unusedVariables false
set_option linter.unusedSimpArgs false
set_option maxHeartbeats 0
set_option maxRecDepth 100000
variable {C : World → Prop}
theorem buf_sl {K : Nat} {e : TypeId} {n : Nat} {cs : List Value} {v : Value} {T : List Blk} {F : Nat → Nat → Value} (h : Buf K e n cs v T) (hr : Row K n F cs) : Sl T K n F v := by
  rcases h.2 with ⟨rfl, ⟨a, rfl⟩, -⟩ | ⟨g, cap, Z, rfl, hc, hZ, hZt, rfl⟩
  · exact ⟨a, 0, 0, 0, rfl, fun h => by omega⟩
  · refine ⟨_, cap, g, 0, rfl, fun _ => ⟨rfl, Z.toArray, e, (0, 0), by simp, fun i j hi hj => ?_⟩⟩
    have h1 := hr.2 i j hi hj
    have h2 : i * K + j < n * K := by
      have : (i + 1) * K ≤ n * K := Nat.mul_le_mul_right _ hi
      rw [Nat.succ_mul] at this
      omega
    rw [Nat.zero_add, List.getElem?_toArray, ← h1, ← hZt, List.getElem?_take, if_pos h2]
theorem RulI.sub {T T' : List Blk} {r : Rul} {F : Nat → Value} (h : RulI T r F) (hs : ∀ b ∈ T, b ∈ T') : RulI T' r F := ⟨h.p.sub hs, h.s.sub hs, h.d.sub hs, h.t.sub hs⟩
theorem rulD_T {l : List Rul} {v : Value} {T : List Blk} (h : rulD l v T) : rulT T l v := by
  obtain ⟨F, h1, h2⟩ := h.sl
  refine ⟨F, h1, fun i hi => ?_⟩
  have hg : l[i]? = some (l.getD i ru0) := by rw [List.getD_eq_getElem?_getD, List.getElem?_eq_getElem hi]; rfl
  obtain ⟨cs, Te, ⟨v1, v2, v3, v4, T1, T2, T3, T4, rfl, rfl, e1, e2, e3, e4⟩, -, h3, h4⟩ := h2 i _ hg
  have f0 : F i 0 = v1 := h3 0 _ rfl
  have f1 : F i 1 = v2 := h3 1 _ rfl
  have f2 : F i 2 = v3 := h3 2 _ rfl
  have f3 : F i 3 = v4 := h3 3 _ rfl
  refine RulI.sub ⟨?_, ?_, ?_, ?_⟩ h4
  · rw [f0]; exact (buf_sl e1 (row_flat 1 u8C (fun _ => rfl) 0 _)).sub fun b hb => List.mem_append_left _ hb
  · rw [f1]; exact (buf_sl e2 (row_flat 6 spC (fun _ => rfl) sp0 _)).sub fun b hb => List.mem_append_right _ (List.mem_append_left _ hb)
  · rw [f2]; exact (buf_sl e3 (row_flat 6 spC (fun _ => rfl) sp0 _)).sub fun b hb => List.mem_append_right _ (List.mem_append_right _ (List.mem_append_left _ hb))
  · rw [f3]; exact (buf_sl e4 (row_flat 2 ptC (fun _ => rfl) pt0 _)).sub fun b hb => List.mem_append_right _ (List.mem_append_right _ (List.mem_append_right _ hb))
/-- A contract on memory, as one on data. -/
theorem ct_lift {f : FuncId} {r : SV} (D : DP) (N : List It) (xs : List SV) (args : Value → List SV) (hden : ∀ E : Nat → Ent, xs.map (SV.den E) = (args (E 0).v).map (SV.den E)) (h : ∀ v T, D v T → Ct S0 C f (args v) [tX T] [] [] N r) : Ct S0 C f xs [tD D] [] [] N r := by
  refine ⟨fun E w hL hC T hok => ?_⟩
  have hD : D (E 0).v (E 0).T := hok (0, tD D) (by simp [ix])
  have key := (h _ _ hD).out E w hL (by simpa [ix, denP, It.den, tD, tX] using hC) (by simpa [ix, denP, It.den, tD, tX] using T) (by
    intro p hp
    simp [ix] at hp
    subst hp
    trivial)
  have hs : ((oCall f (args (E 0).v)).sem E).run Try.prog w = ((oCall f xs).sem E).run Try.prog w := by
    show (callFunc f ((args (E 0).v).map (SV.den E)).toArray).run Try.prog w = (callFunc f (xs.map (SV.den E)).toArray).run Try.prog w
    rw [hden E]
  rw [hs] at key
  refine key.mono ?_
  rintro x w' ⟨E', h1, h2, h3, h4⟩
  have e0 : E' 0 = E 0 := h1 0 rfl
  refine ⟨E', h1, fun p hp => ?_, h3, ?_⟩
  · have hp : p ∈ (0, tD D) :: ix 1 N := hp
    rcases List.mem_cons.1 hp with rfl | hp
    · show D (E' 0).v (E' 0).T
      rw [e0]
      exact hD
    · exact h2 p (show p ∈ (0, tX (E 0).T) :: ix 1 N from List.mem_cons_of_mem _ hp)
  · have a1 : denP E (ix 0 ([tD D] ++ [])) = denP E (ix 0 ([tX (E 0).T] ++ [])) := rfl
    have a2 : denP E' (postC [tD D] [] [] N) = denP E' (postC [tX (E 0).T] [] [] N) := by
      show (E' 0).T ++ _ = (E 0).T ++ _
      rw [e0]
      rfl
    rw [a1, a2]
    exact h4
theorem c_cl1 (T : List Blk) (l : List Int) (v : Value) (hv : u8T T l v) (hl : l.length ≤ 1048576) : Ct S0 C 41 [vV v] [tX T] [] [] [tD (Buf 1 5 l.length (l.flatMap u8C))] (vW 1) := by
  have hv0 := hv
  obtain ⟨base, cap, b0, o, rfl, H⟩ := hv0
  refine xIn Try.f41 fun E0 w0 hL hC hk => ?_
  rcases base with _ | ba
  · have q0 : l = [] := by
      by_cases h : 0 < l.length
      · cases (H h).1
      · exact List.length_eq_zero_iff.1 (by omega)
    subst q0
    refine xR 15 [] ?_
    refine xPk (vV (.slice none 0 0)) [] (Buf 1 5 ([] : List Int).length (([] : List Int).flatMap u8C)) [2] [] (fun E h => ⟨rfl, buf_nil _ _⟩) ?_
    exact xRetC [1]
  · refine xR 17 [(5, dApN 63 63 5 1 (.int .u8 0) false (vS 1 0 0 0) (fun E => ⟨some ⟨(E 1).g, 0, none⟩, rfl⟩) 0 (.slice (some ba) l.length cap) hv (l.flatMap u8C) (row_flat 1 u8C (fun _ => rfl) 0 _) (u8_one _) (by omega))] ?_
    refine xR 2 [] ?_
    exact xRetC [2]
theorem c_cl2 (T : List Blk) (l : List Spn) (v : Value) (hv : spT T l v) (hl : l.length ≤ 1048576) : Ct S0 C 42 [vV v] [tX T] [] [] [tD (Buf 6 73 l.length (l.flatMap spC))] (vW 1) := by
  have hv0 := hv
  obtain ⟨base, cap, b0, o, rfl, H⟩ := hv0
  refine xIn Try.f42 fun E0 w0 hL hC hk => ?_
  rcases base with _ | ba
  · have q0 : l = [] := by
      by_cases h : 0 < l.length
      · cases (H h).1
      · exact List.length_eq_zero_iff.1 (by omega)
    subst q0
    refine xR 15 [] ?_
    refine xPk (vV (.slice none 0 0)) [] (Buf 6 73 ([] : List Spn).length (([] : List Spn).flatMap spC)) [2] [] (fun E h => ⟨rfl, buf_nil _ _⟩) ?_
    exact xRetC [1]
  · refine xR 17 [(5, dApN 64 64 73 6 (.agg #[.bool false, .int .u64 0, .int .u64 0, .bool false, .int .u64 0, .int .u64 0]) false (vS 1 0 0 0) (fun E => ⟨some ⟨(E 1).g, 0, none⟩, rfl⟩) 0 (.slice (some ba) l.length cap) hv (l.flatMap spC) (row_flat 6 spC (fun _ => rfl) sp0 _) (sp_one _) (by omega))] ?_
    refine xR 2 [] ?_
    exact xRetC [2]
theorem c_cl3 (T : List Blk) (l : List Prt) (v : Value) (hv : ptT T l v) (hl : l.length ≤ 1048576) : Ct S0 C 43 [vV v] [tX T] [] [] [tD (Buf 2 75 l.length (l.flatMap ptC))] (vW 1) := by
  have hv0 := hv
  obtain ⟨base, cap, b0, o, rfl, H⟩ := hv0
  refine xIn Try.f43 fun E0 w0 hL hC hk => ?_
  rcases base with _ | ba
  · have q0 : l = [] := by
      by_cases h : 0 < l.length
      · cases (H h).1
      · exact List.length_eq_zero_iff.1 (by omega)
    subst q0
    refine xR 15 [] ?_
    refine xPk (vV (.slice none 0 0)) [] (Buf 2 75 ([] : List Prt).length (([] : List Prt).flatMap ptC)) [2] [] (fun E h => ⟨rfl, buf_nil _ _⟩) ?_
    exact xRetC [1]
  · refine xR 17 [(5, dApN 65 65 75 2 (.agg #[.int .u16 0, .int .u16 0]) false (vS 1 0 0 0) (fun E => ⟨some ⟨(E 1).g, 0, none⟩, rfl⟩) 0 (.slice (some ba) l.length cap) hv (l.flatMap ptC) (row_flat 2 ptC (fun _ => rfl) pt0 _) (pt_one _) (by omega))] ?_
    refine xR 2 [] ?_
    exact xRetC [2]
end Go.Proofs.Ytlfekknonjlopaa
