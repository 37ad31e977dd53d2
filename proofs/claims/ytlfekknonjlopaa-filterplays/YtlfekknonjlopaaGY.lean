/- The document's filter. -/
import Derived.Test.YtlfekknonjlopaaGT
import Derived.Test.YtlfekknonjlopaaXZ
namespace Go.Proofs.Ytlfekknonjlopaa
open Go.RowKit
set_option linter.unusedVariables false
set_option linter.unusedSimpArgs false
set_option maxHeartbeats 0
set_option maxRecDepth 100000
variable {C : World → Prop}
theorem els_liv : ∀ L : List Liv, Els livEl 10 L (L.flatMap lvC) []
  | [] => ⟨rfl, rfl⟩
  | x :: L => ⟨lvC x, L.flatMap lvC, [], [], rfl, rfl, rfl, ⟨rfl, rfl⟩, els_liv L⟩
theorem liv_els : ∀ {L : List Liv} {cs : List Value} {T : List Blk}, Els livEl 10 L cs T → cs = L.flatMap lvC ∧ T = []
  | [], _, _, h => h
  | x :: L, _, _, ⟨c1, c2, T1, T2, e1, h1, e2, ⟨e3, e4⟩, h⟩ => by
    obtain ⟨e5, e6⟩ := liv_els h
    exact ⟨by rw [e1, e3, e5]; rfl, by rw [e2, e4, e6]; rfl⟩
theorem liv_buf {L : List Liv} {v : Value} {T : List Blk} (h : Buf 10 55 L.length (L.flatMap lvC) v T) : livD L v T := ⟨L.flatMap lvC, T, [], h, els_liv L, by simp⟩
theorem buf_liv {L : List Liv} {v : Value} {T : List Blk} (h : livD L v T) : Buf 10 55 L.length (L.flatMap lvC) v T := by
  obtain ⟨cs, Tb, Te, h1, h2, rfl⟩ := h
  obtain ⟨rfl, rfl⟩ := liv_els h2
  simpa using h1
def flR (now : Int) (L : List Liv) : Nat → List Liv
  | 0 => []
  | n + 1 => if (L.getD n lv0.2).u > now then flR now L n ++ [L.getD n lv0.2] else flR now L n
theorem flR_take (now : Int) (L : List Liv) : ∀ n, n ≤ L.length → flR now L n = (L.take n).filter fun y => decide (y.u > now)
  | 0, _ => rfl
  | n + 1, h => by
    rw [flR, flR_take now L n (by omega), take_succD L lv0.2 n (by omega), List.filter_append]
    split
    · rename_i e
      rw [List.filter_cons, if_pos (decide_eq_true e)]
      rfl
    · rename_i e
      rw [List.filter_cons, if_neg (by simpa using e)]
      simp
theorem flR_all (now : Int) (L : List Liv) : flR now L L.length = L.filter fun y => decide (y.u > now) := by rw [flR_take now L _ (Nat.le_refl _), List.take_length]
theorem flR_len (now : Int) (L : List Liv) : ∀ n, (flR now L n).length ≤ n
  | 0 => Nat.le_refl _
  | n + 1 => by
    have := flR_len now L n
    unfold flR
    split
    · rw [List.length_append]; simp; omega
    · omega
abbrev rfI (rv : Value) (a : Ans) (k : Nat) : It := tC [vV rv, vW k, vV (.int .i64 a.most), vV (.int .u64 a.life), vV (.int .u64 a.now)] 36
theorem c_rat (rv : Value) (a : Ans) (t : Int) (hl : a.l.length < 100000) : Ct S0 C 32 [vP 0 0, vV (.int .u64 t)] [] [rfI rv a 1, tD (livD a.l)] [rfI rv (psA a t) 2, gap] [tD (livD (psA a t).l)] (vT []) := by
  refine xIn Try.f32 fun E0 w0 hL hC hk => ?_
  refine xOpen (D := livD a.l) 1 fun v0 T0 hv => ?_
  have hS := livD_sl hv
  obtain ⟨base, cap, b0, o, rfl, H⟩ := hS
  refine xR 23 [] ?_
  have hm : (if t > a.now then t else a.now) = max a.now t := by split <;> omega
  refine xPk (vV (.slice none 0 0)) [] (livD (flR (if t > a.now then t else a.now) a.l 0)) [4] [] (fun E h => ⟨rfl, row_nil _ _ _⟩) ?_
  refine xLp (fun (n : Nat) => [(5, vV (.int .i64 (n : Int))), (4, vW 2)]) (fun n => [(2, tD (livD (flR (if t > a.now then t else a.now) a.l n)))]) [15, 16, 17, 18, 19, 20, 21, 24, 25, 26, 27, 28, 29, 30, 31, 32, 33, 34, 35, 36, 37, 38, 39, 40, 41, 42, 43, 44, 45, 46, 22, 23] (fun n => n ≤ a.l.length) (fun n => a.l.length - n) 0 (Nat.zero_le _) fun n d hx g => ?_
  by_cases q3 : (n : Int) < (a.l.length : Int)
  · have hle := flR_len (if t > a.now then t else a.now) a.l n
    by_cases q5 : (a.l.getD n lv0.2).u > (if t > a.now then t else a.now)
    · have eF : flR (if t > a.now then t else a.now) a.l (n + 1) = flR (if t > a.now then t else a.now) a.l n ++ [a.l.getD n lv0.2] := if_pos q5
      refine xR 37 [(6, dT q3), (12, dIxR 34 H cap n (by omega)), (14, dLdR1 23 1 H n 9 (o + n * 10 + 9) (by omega)), (19, dT q5), (26, dIxR 34 H cap n (by omega)), (27, dLdR 55 1 H n (by omega)), (29, dApp_livEl (flR (if t > a.now then t else a.now) a.l n) 2 3 ((a.l.getD n lv0.snd).f.p) ((a.l.getD n lv0.snd).f.s.v) ((a.l.getD n lv0.snd).f.s.h) ((a.l.getD n lv0.snd).f.s.l) ((a.l.getD n lv0.snd).f.d.v) ((a.l.getD n lv0.snd).f.d.h) ((a.l.getD n lv0.snd).f.d.l) ((a.l.getD n lv0.snd).f.fr) ((a.l.getD n lv0.snd).f.to) ((a.l.getD n lv0.snd).u) (by omega)), (32, dW ((↑n : Int) + 1) ((↑(n + 1) : Int)) (by omega) (by omega) (by omega))] ?_
      refine xWk 4 (D := livD (flR (if t > a.now then t else a.now) a.l n ++ [a.l.getD n lv0.2])) (livD (flR (if t > a.now then t else a.now) a.l (n + 1))) (fun v T h => by rw [eF]; exact h) ?_
      exact xNx g (n + 1) [15, 16, 17, 18, 19, 20, 21, 24, 25, 26, 27, 28, 29, 30, 31, 32, 33, 34, 35, 36, 37, 38, 39, 40, 41, 42, 43, 44, 45, 46, 22, 23] [0, 1, 4] (by omega) (by omega)
    · have eF : flR (if t > a.now then t else a.now) a.l (n + 1) = flR (if t > a.now then t else a.now) a.l n := if_neg q5
      refine xR 25 [(6, dT q3), (12, dIxR 34 H cap n (by omega)), (14, dLdR1 23 1 H n 9 (o + n * 10 + 9) (by omega)), (19, dF q5), (21, dW ((↑n : Int) + 1) ((↑(n + 1) : Int)) (by omega) (by omega) (by omega))] ?_
      refine xWk 2 (D := livD (flR (if t > a.now then t else a.now) a.l n)) (livD (flR (if t > a.now then t else a.now) a.l (n + 1))) (fun v T h => by rw [eF]; exact h) ?_
      exact xNx g (n + 1) [15, 16, 17, 18, 19, 20, 21, 24, 25, 26, 27, 28, 29, 30, 31, 32, 33, 34, 35, 36, 37, 38, 39, 40, 41, 42, 43, 44, 45, 46, 22, 23] [0, 1, 2] (by omega) (by omega)
  · obtain rfl : n = a.l.length := by omega
    refine xR 20 [(6, dF q3)] ?_
    refine xWk 2 (D := livD (flR (if t > a.now then t else a.now) a.l a.l.length)) (livD (psA a t).l) (fun v T h => by rw [flR_all, hm] at h; exact h) ?_
    refine xIt 0 (x := tC [vV rv, vW 2, vV (.int .i64 a.most), vV (.int .u64 a.life), vV (.int .u64 (if t > a.now then t else a.now))] 36) (y := rfI rv (psA a t) 2) (by rw [hm]; rfl) ?_
    refine xDrop 1 T0 [] (List.nil_sublist _) ?_
    exact (xRetC [2])
/-- The time of the k-th is told anew, in the cells. -/
theorem set_flat (x : Liv) (u : Int) : ∀ (L : List Liv) (k : Nat), L[k]? = some x → (L.flatMap lvC).set (k * 10 + 9) (.int .u64 u) = (L.set k (x.1, u)).flatMap lvC
  | y :: L, 0, h => by
    obtain rfl : y = x := by simpa using h
    rfl
  | y :: L, k + 1, h => by
    have ih := set_flat x u L k (by simpa using h)
    rw [List.flatMap_cons, List.set_cons_succ, List.flatMap_cons, ← ih]
    rw [List.set_append_right _ _ (by show (lvC y).length ≤ _; simp [lvC]; omega)]
    congr 2
    simp [lvC]
    omega
theorem rn_at (x : Flw) (u : Int) : ∀ (L : List Liv) (k : Nat), k < L.length → (∀ i, i < k → ¬ (L.getD i lv0.2).f = x) → (L.getD k lv0.2).f = x → rnL x u L = L.set k ((L.getD k lv0.2).1, u)
  | y :: L, 0, _, _, h => by
    have h : y.f = x := h
    rw [show rnL x u (y :: L) = if y.f = x then ⟨y.f, u⟩ :: L else y :: rnL x u L from rfl, if_pos h]
    rfl
  | y :: L, k + 1, hk, h0, h => by
    have h1 : ¬ y.f = x := h0 0 (by omega)
    rw [show rnL x u (y :: L) = if y.f = x then ⟨y.f, u⟩ :: L else y :: rnL x u L from rfl, if_neg h1]
    rw [rn_at x u L k (by simpa using hk) (fun i hi => by simpa using h0 (i + 1) (by omega)) (by simpa using h)]
    simp
theorem c_ragain (rv : Value) (a : Ans) (x : Flw) (hl : a.l.length < 100000) : Ct S0 C 33 [vP 0 0, flS x] [] [rfI rv a 1, tD (livD a.l)] [rfI rv (rnA a x) 2, gap] [tD (livD (rnA a x).l)] (vV (.bool (hasL x a.l))) := by
  refine xIn Try.f33 fun E0 w0 hL hC hk => ?_
  refine xOpen (D := livD a.l) 1 fun v0 T0 hv => ?_
  have hS := livD_sl hv
  obtain ⟨base, cap, b0, o, e0, H⟩ := hS
  have hB := buf_liv hv
  rcases fst_ix (fun e : Liv => decide (e.f = x)) lv0.2 a.l with ⟨k, k1, k2, k3, k4⟩ | ⟨k1, k2⟩
  · rcases hB.2 with ⟨h0, -, -⟩ | ⟨g0, cap0, Z, rfl, hc, hZ, hZt, rfl⟩
    · omega
    have k4 : hasL x a.l = true := k4
    rw [k4]
    have H0 : SlO [(⟨g0, .cells Z.toArray 55 (0, 0)⟩ : Blk)] 10 a.l.length (lvF a.l) (some ⟨g0, 0, none⟩) g0 0 := fun _ => ⟨rfl, Z.toArray, 55, (0, 0), by simp, fun i j hi hj => by
      have h1 := (row_flat 10 lvC (fun _ => rfl) lv0.2 a.l).2 i j hi hj
      have h2 : i * 10 + j < a.l.length * 10 := by omega
      rw [Nat.zero_add, List.getElem?_toArray, ← h1, ← hZt, List.getElem?_take, if_pos h2]⟩
    clear H
    refine xR 11 [] ?_
    refine xLp (fun (n : Nat) => [(5, vV (.int .i64 (n : Int)))]) (fun n => []) [6, 7, 8, 9, 10, 11, 12, 15, 16, 17, 18, 19, 20, 21, 22, 23, 24, 25, 26, 27, 28, 29, 30, 31, 32, 33, 34, 35, 36, 37, 38, 39, 40, 4, 13, 14] (fun n => n ≤ k) (fun n => k - n) 0 (Nat.zero_le _) fun n d hx g => ?_
    have q3 : (n : Int) < (a.l.length : Int) := by omega
    by_cases q4 : n = k
    · subst q4
      have m1 : (a.l.getD n lv0.2).f = x := of_decide_eq_true k3
      have ho : 0 + n * 10 + 9 < Z.length := by omega
      refine xR 20 [(6, dT q3), (12, dIxR 34 H0 cap0 n (by omega)), (14, dLdRp 42 1 H0 n 0 9 (0 + n * 10) (by omega)), (16, dEq42 ((a.l.getD n lv0.snd).f.p) ((a.l.getD n lv0.snd).f.s.v) ((a.l.getD n lv0.snd).f.s.h) ((a.l.getD n lv0.snd).f.s.l) ((a.l.getD n lv0.snd).f.d.v) ((a.l.getD n lv0.snd).f.d.h) ((a.l.getD n lv0.snd).f.d.l) ((a.l.getD n lv0.snd).f.fr) ((a.l.getD n lv0.snd).f.to) x.p x.s.v x.s.h x.s.l x.d.v x.d.h x.d.l x.fr x.to true (DT m1)), (31, dIxR 34 H0 cap0 n (by omega)), (33, dStX 23 1 [] [] g0 (0 + n * 10 + 9) Z 55 (.int .u64 (untF a.now a.life)) ho)] ?_
      have hl2 : (rnA a x).l = a.l.set n ((a.l.getD n lv0.2).1, untF a.now a.life) := rn_at x _ a.l n k1 (fun i hi => of_decide_eq_false (k2 i hi)) m1
      refine xPk (vV (.slice (some ⟨g0, 0, none⟩) a.l.length cap0)) [(1, tX [(⟨g0, .cells (Z.set (0 + n * 10 + 9) (.int .u64 (untF a.now a.life))).toArray 55 (0, 0)⟩ : Blk)])] (livD (rnA a x).l) [] [(0, 1)] (fun E h => ⟨rfl, ?_⟩) ?_
      · refine liv_buf ⟨?_, .inr ⟨g0, cap0, Z.set (0 + n * 10 + 9) (.int .u64 (untF a.now a.life)), ?_, ?_, ?_, ?_, rfl⟩⟩
        · rw [hl2, ← set_flat (a.l.getD n lv0.2) _ a.l n (by rw [List.getD_eq_getElem?_getD, List.getElem?_eq_getElem k1]; rfl), List.length_set, List.length_set]
          exact hB.1
        · rw [hl2, List.length_set]
          rfl
        · rw [hl2, List.length_set]
          exact hc
        · rw [List.length_set]
          exact hZ
        · rw [hl2, List.length_set, ← set_flat (a.l.getD n lv0.2) _ a.l n (by rw [List.getD_eq_getElem?_getD, List.getElem?_eq_getElem k1]; rfl), List.take_set, hZt, Nat.zero_add]
      refine xR 4 [] ?_
      exact (xRetC [3])
    · have m1 : ¬ (a.l.getD n lv0.2).f = x := of_decide_eq_false (k2 n (by omega))
      refine xR 25 [(6, dT q3), (12, dIxR 34 H0 cap0 n (by omega)), (14, dLdRp 42 1 H0 n 0 9 (0 + n * 10) (by omega)), (16, dEq42 ((a.l.getD n lv0.snd).f.p) ((a.l.getD n lv0.snd).f.s.v) ((a.l.getD n lv0.snd).f.s.h) ((a.l.getD n lv0.snd).f.s.l) ((a.l.getD n lv0.snd).f.d.v) ((a.l.getD n lv0.snd).f.d.h) ((a.l.getD n lv0.snd).f.d.l) ((a.l.getD n lv0.snd).f.fr) ((a.l.getD n lv0.snd).f.to) x.p x.s.v x.s.h x.s.l x.d.v x.d.h x.d.l x.fr x.to false (DF m1)), (18, dW ((↑n : Int) + 1) ((↑(n + 1) : Int)) (by omega) (by omega) (by omega))] ?_
      exact xNx g (n + 1) [6, 7, 8, 9, 10, 11, 12, 15, 16, 17, 18, 19, 20, 21, 22, 23, 24, 25, 26, 27, 28, 29, 30, 31, 32, 33, 34, 35, 36, 37, 38, 39, 40, 4, 13, 14] [0, 1, 2] (by omega) (by omega)
  · subst e0
    have k2 : hasL x a.l = false := k2
    rw [k2, rnA_miss k2]
    refine xR 11 [] ?_
    refine xLp (fun (n : Nat) => [(5, vV (.int .i64 (n : Int)))]) (fun n => []) [6, 7, 8, 9, 10, 11, 12, 15, 16, 17, 18, 19, 20, 21, 22, 23, 24, 25, 26, 27, 28, 29, 30, 31, 32, 33, 34, 35, 36, 37, 38, 39, 40, 4, 13, 14] (fun n => n ≤ a.l.length) (fun n => a.l.length - n) 0 (Nat.zero_le _) fun n d hx g => ?_
    by_cases q3 : (n : Int) < (a.l.length : Int)
    · have m1 : ¬ (a.l.getD n lv0.2).f = x := of_decide_eq_false (k1 n (by omega))
      refine xR 25 [(6, dT q3), (12, dIxR 34 H cap n (by omega)), (14, dLdRp 42 1 H n 0 9 (o + n * 10) (by omega)), (16, dEq42 ((a.l.getD n lv0.snd).f.p) ((a.l.getD n lv0.snd).f.s.v) ((a.l.getD n lv0.snd).f.s.h) ((a.l.getD n lv0.snd).f.s.l) ((a.l.getD n lv0.snd).f.d.v) ((a.l.getD n lv0.snd).f.d.h) ((a.l.getD n lv0.snd).f.d.l) ((a.l.getD n lv0.snd).f.fr) ((a.l.getD n lv0.snd).f.to) x.p x.s.v x.s.h x.s.l x.d.v x.d.h x.d.l x.fr x.to false (DF m1)), (18, dW ((↑n : Int) + 1) ((↑(n + 1) : Int)) (by omega) (by omega) (by omega))] ?_
      exact xNx g (n + 1) [6, 7, 8, 9, 10, 11, 12, 15, 16, 17, 18, 19, 20, 21, 22, 23, 24, 25, 26, 27, 28, 29, 30, 31, 32, 33, 34, 35, 36, 37, 38, 39, 40, 4, 13, 14] [0, 1, 2] (by omega) (by omega)
    · refine xR 17 [(6, dF q3)] ?_
      refine xPk (vV (.slice base a.l.length cap)) [(1, tX T0)] (livD a.l) [] [(0, 1)] (fun E h => ⟨rfl, by show livD a.l _ (T0 ++ []); rw [List.append_nil]; exact hv⟩) ?_
      exact (xRetC [3])
end Go.Proofs.Ytlfekknonjlopaa
