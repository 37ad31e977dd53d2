/- Which rule matches: the document's answer is the same. -/
import Derived.Test.YtlfekknonjlopaaGM
import Derived.Test.YtlfekknonjlopaaXZ
namespace Go.Proofs.Ytlfekknonjlopaa
open Go.RowKit
set_option linter.unusedVariables false
set_option linter.unusedSimpArgs false
set_option maxHeartbeats 0
set_option maxRecDepth 100000
variable {C : World → Prop}
def prD (l : List Int) (x : Int) : Nat → Bool
  | 0 => decide ((l.length : Int) = 0)
  | n + 1 => prD l x n || decide (l.getD n 0 = x)
def poD (l : List Prt) (x : Flw) : Nat → Bool
  | 0 => decide ((l.length : Int) = 0)
  | n + 1 => poD l x n || ((decide (x.p = 6) || decide (x.p = 17)) && (decide (x.to ≥ (l.getD n pt0).1) && decide (x.to ≤ (l.getD n pt0).2)))
theorem any_take {α : Type} (l : List α) (z : α) (p : α → Bool) : ∀ n, n ≤ l.length → ((l.take n).any p = true ↔ ∃ i, i < n ∧ p (l.getD i z) = true) := fun n hn => by
  rw [List.any_eq_true]
  constructor
  · rintro ⟨y, hy, h⟩
    obtain ⟨i, hi, rfl⟩ := List.getElem_of_mem hy
    have hi2 : i < n := by rw [List.length_take] at hi; omega
    refine ⟨i, hi2, ?_⟩
    rw [List.getElem_take] at h
    rw [List.getD_eq_getElem?_getD, List.getElem?_eq_getElem (by omega)]
    exact h
  · rintro ⟨i, hi, h⟩
    rw [List.getD_eq_getElem?_getD, List.getElem?_eq_getElem (by omega)] at h
    exact ⟨l[i], List.mem_iff_getElem.2 ⟨i, by rw [List.length_take]; omega, by rw [List.getElem_take]⟩, h⟩
theorem prD_iff (l : List Int) (x : Int) : ∀ n, prD l x n = true ↔ l.length = 0 ∨ ∃ i, i < n ∧ l.getD i 0 = x
  | 0 => by simp [prD]
  | n + 1 => by
    have := prD_iff l x n
    simp only [prD, Bool.or_eq_true, this, decide_eq_true_iff]
    constructor
    · rintro ((h | ⟨i, hi, h⟩) | h)
      · exact .inl h
      · exact .inr ⟨i, by omega, h⟩
      · exact .inr ⟨n, by omega, h⟩
    · rintro (h | ⟨i, hi, h⟩)
      · exact .inl (.inl h)
      · by_cases e : i = n
        · subst e; exact .inr h
        · exact .inl (.inr ⟨i, by omega, h⟩)
theorem prD_all (l : List Int) (x : Int) : prD l x l.length = proB l x := by
  rw [Bool.eq_iff_iff, prD_iff]
  simp only [proB, Bool.or_eq_true, decide_eq_true_iff]
  refine or_congr Iff.rfl ⟨?_, ?_⟩
  · rintro ⟨i, hi, h⟩
    rw [List.getD_eq_getElem?_getD, List.getElem?_eq_getElem hi] at h
    rw [← h]
    exact List.getElem_mem hi
  · intro h
    obtain ⟨i, hi, rfl⟩ := List.getElem_of_mem h
    exact ⟨i, hi, by rw [List.getD_eq_getElem?_getD, List.getElem?_eq_getElem hi, Option.getD_some]⟩
theorem poD_iff (l : List Prt) (x : Flw) : ∀ n, poD l x n = true ↔ l.length = 0 ∨ ((x.p = 6 ∨ x.p = 17) ∧ ∃ i, i < n ∧ porB1 (l.getD i pt0) x.to = true)
  | 0 => by simp [poD]
  | n + 1 => by
    have := poD_iff l x n
    have e : porB1 (l.getD n pt0) x.to = true ↔ (x.to ≥ (l.getD n pt0).1 ∧ x.to ≤ (l.getD n pt0).2) := by simp only [porB1, Bool.and_eq_true, decide_eq_true_iff, ge_iff_le]
    simp only [poD, Bool.or_eq_true, Bool.and_eq_true, this, decide_eq_true_iff]
    constructor
    · rintro ((h | ⟨h0, i, hi, h⟩) | ⟨h0, h⟩)
      · exact .inl h
      · exact .inr ⟨h0, i, by omega, h⟩
      · exact .inr ⟨h0, n, by omega, e.2 h⟩
    · rintro (h | ⟨h0, i, hi, h⟩)
      · exact .inl (.inl h)
      · by_cases e2 : i = n
        · subst e2; exact .inr ⟨h0, e.1 h⟩
        · exact .inl (.inr ⟨h0, i, by omega, h⟩)
theorem poD_all (l : List Prt) (x : Flw) : poD l x l.length = porB l x := by
  have h2 := any_take l pt0 (fun s => porB1 s x.to) l.length (Nat.le_refl _)
  rw [List.take_length] at h2
  rw [Bool.eq_iff_iff, poD_iff]
  simp only [porB, Bool.or_eq_true, Bool.and_eq_true, decide_eq_true_iff, h2]
theorem c_byD (T : List Blk) (l : List Int) (v : Value) (m : List Prt) (u : Value) (x : Flw) (hv : u8T T l v) (hu : ptT T m u) (hl : l.length ≤ 1048576) (hm : m.length ≤ 1048576) : Ct S0 C 38 [vV v, vV u, flS x] [tX T] [] [] [] (vV (.bool (proB l x.p && porB m x))) := by
  obtain ⟨base, cap, b0, o, rfl, H⟩ := hv
  obtain ⟨base2, cap2, b2, o2, rfl, H2⟩ := hu
  have H1 : SlO T 1 l.length (fun i _ => .int .u8 (l.getD i 0)) base b0 o := fun h => by
    obtain ⟨h1, Z, e, fr, h2, h3⟩ := H h
    exact ⟨h1, Z, e, fr, h2, fun i j hi hj => by
      have hj0 : j = 0 := by omega
      subst hj0
      exact h3 i 0 hi (by omega)⟩
  have H3 : SlO T 2 m.length (fun i j => [Value.int .u16 (m.getD i pt0).1, .int .u16 (m.getD i pt0).2].getD j undef) base2 b2 o2 := H2
  clear H H2
  refine xIn Try.f38 fun E0 w0 hL hC hk => ?_
  refine xR 18 [(4, dB (iEq ((↑l.length : Int)) 0))] ?_
  refine xLp (fun (n : Nat) => [(8, vV (.int .i64 (n : Int))), (7, vV (.bool (prD l x.p n)))]) (fun x => []) [14, 15, 16, 17, 20, 21, 22, 23, 24, 25, 26, 27, 28, 29, 18, 19] (fun n => n ≤ l.length) (fun n => l.length - n) 0 (Nat.zero_le _) fun n d hx g => ?_
  by_cases q3 : (n : Int) < (l.length : Int)
  · cases h : prD l x.p n
    · refine xR 19 [(3, dT q3), (4, dB h), (8, dIxR 63 H1 cap n (by omega)), (9, dLdR1 5 0 H1 n 0 (o + n * 1) (by omega)), (12, dB (iEq (l.getD n 0) x.p)), (16, dW ((↑n : Int) + 1) ((↑(n + 1) : Int)) (by omega) (by omega) (by omega))] ?_
      refine xSl 7 (vV (.bool (prD l x.p (n + 1)))) (fun E _ => by rw [show prD l x.p (n + 1) = decide (l.getD n 0 = x.p) by rw [prD, h, Bool.false_or]]; kernel_rfl) ?_
      exact xNx g (n + 1) [14, 15, 16, 17, 20, 21, 22, 23, 24, 25, 26, 27, 28, 29, 18, 19] [0, 1] (by omega) (by omega)
    · refine xR 19 [(3, dT q3), (4, dB h), (16, dW ((↑n : Int) + 1) ((↑(n + 1) : Int)) (by omega) (by omega) (by omega))] ?_
      refine xSl 7 (vV (.bool (prD l x.p (n + 1)))) (fun E _ => by rw [show prD l x.p (n + 1) = true by rw [prD, h, Bool.true_or]]; kernel_rfl) ?_
      exact xNx g (n + 1) [14, 15, 16, 17, 20, 21, 22, 23, 24, 25, 26, 27, 28, 29, 18, 19] [0, 1] (by omega) (by omega)
  · obtain rfl : n = l.length := by omega
    refine xSl 7 (vV (.bool (proB l x.p))) (fun E _ => by rw [← prD_all l x.p]; kernel_rfl) ?_
    generalize proB l x.p = pb
    refine xR 11 [(3, dF q3)] ?_
    refine xR 12 [(2, dB (iEq ((↑m.length : Int)) 0))] ?_
    refine xLp (fun (n : Nat) => [(10, vV (.int .i64 (n : Int))), (9, vV (.bool (poD m x n)))]) (fun x => []) [33, 34, 35, 36, 39, 40, 41, 42, 43, 44, 45, 46, 47, 48, 49, 50, 51, 52, 53, 54, 55, 56, 57, 58, 59, 60, 61, 62, 63, 64, 65, 66, 67, 68, 69, 37, 38] (fun n => n ≤ m.length) (fun n => m.length - n) 0 (Nat.zero_le _) fun n d2 hx2 g2 => ?_
    by_cases q5 : (n : Int) < (m.length : Int)
    · have ep : poD m x (n + 1) = (poD m x n || ((decide (x.p = 6) || decide (x.p = 17)) && (decide (x.to ≥ (m.getD n pt0).1) && decide (x.to ≤ (m.getD n pt0).2)))) := rfl
      cases h : poD m x n
      · rw [h, Bool.false_or] at ep
        by_cases p6 : x.p = 6
        · rw [decide_eq_true p6, Bool.true_or, Bool.true_and] at ep
          by_cases p1 : x.to ≥ (m.getD n pt0).1
          · rw [decide_eq_true p1, Bool.true_and] at ep
            refine xR 19 [(3, dT q5), (4, dB h), (8, dB ((iEq x.p 6).trans (DT p6))), (19, dIxR 65 H3 cap2 n (by omega)), (21, dLdR1 40 0 H3 n 0 (o2 + n * 2) (by omega)), (22, dT p1), (29, dIxR 65 H3 cap2 n (by omega)), (31, dLdR1 40 0 H3 n 1 (o2 + n * 2 + 1) (by omega)), (37, dW ((↑n : Int) + 1) ((↑(n + 1) : Int)) (by omega) (by omega) (by omega))] ?_
            refine xSl 9 (vV (.bool (poD m x (n + 1)))) (fun E _ => by rw [ep]; kernel_rfl) ?_
            exact xNx g2 (n + 1) [33, 34, 35, 36, 39, 40, 41, 42, 43, 44, 45, 46, 47, 48, 49, 50, 51, 52, 53, 54, 55, 56, 57, 58, 59, 60, 61, 62, 63, 64, 65, 66, 67, 68, 69, 37, 38] [0, 1] (by omega) (by omega)
          · rw [decide_eq_false p1, Bool.false_and] at ep
            refine xR 19 [(3, dT q5), (4, dB h), (8, dB ((iEq x.p 6).trans (DT p6))), (19, dIxR 65 H3 cap2 n (by omega)), (21, dLdR1 40 0 H3 n 0 (o2 + n * 2) (by omega)), (22, dF p1), (37, dW ((↑n : Int) + 1) ((↑(n + 1) : Int)) (by omega) (by omega) (by omega))] ?_
            refine xSl 9 (vV (.bool (poD m x (n + 1)))) (fun E _ => by rw [ep]; kernel_rfl) ?_
            exact xNx g2 (n + 1) [33, 34, 35, 36, 39, 40, 41, 42, 43, 44, 45, 46, 47, 48, 49, 50, 51, 52, 53, 54, 55, 56, 57, 58, 59, 60, 61, 62, 63, 64, 65, 66, 67, 68, 69, 37, 38] [0, 1] (by omega) (by omega)
        · rw [decide_eq_false p6, Bool.false_or] at ep
          by_cases p17 : x.p = 17
          · rw [decide_eq_true p17, Bool.true_and] at ep
            by_cases p1 : x.to ≥ (m.getD n pt0).1
            · rw [decide_eq_true p1, Bool.true_and] at ep
              refine xR 19 [(3, dT q5), (4, dB h), (8, dB ((iEq x.p 6).trans (DF p6))), (12, dB ((iEq x.p 17).trans (DT p17))), (19, dIxR 65 H3 cap2 n (by omega)), (21, dLdR1 40 0 H3 n 0 (o2 + n * 2) (by omega)), (22, dT p1), (29, dIxR 65 H3 cap2 n (by omega)), (31, dLdR1 40 0 H3 n 1 (o2 + n * 2 + 1) (by omega)), (37, dW ((↑n : Int) + 1) ((↑(n + 1) : Int)) (by omega) (by omega) (by omega))] ?_
              refine xSl 9 (vV (.bool (poD m x (n + 1)))) (fun E _ => by rw [ep]; kernel_rfl) ?_
              exact xNx g2 (n + 1) [33, 34, 35, 36, 39, 40, 41, 42, 43, 44, 45, 46, 47, 48, 49, 50, 51, 52, 53, 54, 55, 56, 57, 58, 59, 60, 61, 62, 63, 64, 65, 66, 67, 68, 69, 37, 38] [0, 1] (by omega) (by omega)
            · rw [decide_eq_false p1, Bool.false_and] at ep
              refine xR 19 [(3, dT q5), (4, dB h), (8, dB ((iEq x.p 6).trans (DF p6))), (12, dB ((iEq x.p 17).trans (DT p17))), (19, dIxR 65 H3 cap2 n (by omega)), (21, dLdR1 40 0 H3 n 0 (o2 + n * 2) (by omega)), (22, dF p1), (37, dW ((↑n : Int) + 1) ((↑(n + 1) : Int)) (by omega) (by omega) (by omega))] ?_
              refine xSl 9 (vV (.bool (poD m x (n + 1)))) (fun E _ => by rw [ep]; kernel_rfl) ?_
              exact xNx g2 (n + 1) [33, 34, 35, 36, 39, 40, 41, 42, 43, 44, 45, 46, 47, 48, 49, 50, 51, 52, 53, 54, 55, 56, 57, 58, 59, 60, 61, 62, 63, 64, 65, 66, 67, 68, 69, 37, 38] [0, 1] (by omega) (by omega)
          · rw [decide_eq_false p17, Bool.false_and] at ep
            refine xR 19 [(3, dT q5), (4, dB h), (8, dB ((iEq x.p 6).trans (DF p6))), (12, dB ((iEq x.p 17).trans (DF p17))), (37, dW ((↑n : Int) + 1) ((↑(n + 1) : Int)) (by omega) (by omega) (by omega))] ?_
            refine xSl 9 (vV (.bool (poD m x (n + 1)))) (fun E _ => by rw [ep]; kernel_rfl) ?_
            exact xNx g2 (n + 1) [33, 34, 35, 36, 39, 40, 41, 42, 43, 44, 45, 46, 47, 48, 49, 50, 51, 52, 53, 54, 55, 56, 57, 58, 59, 60, 61, 62, 63, 64, 65, 66, 67, 68, 69, 37, 38] [0, 1] (by omega) (by omega)
      · rw [h, Bool.true_or] at ep
        refine xR 19 [(3, dT q5), (4, dB h), (37, dW ((↑n : Int) + 1) ((↑(n + 1) : Int)) (by omega) (by omega) (by omega))] ?_
        refine xSl 9 (vV (.bool (poD m x (n + 1)))) (fun E _ => by rw [ep]; kernel_rfl) ?_
        exact xNx g2 (n + 1) [33, 34, 35, 36, 39, 40, 41, 42, 43, 44, 45, 46, 47, 48, 49, 50, 51, 52, 53, 54, 55, 56, 57, 58, 59, 60, 61, 62, 63, 64, 65, 66, 67, 68, 69, 37, 38] [0, 1] (by omega) (by omega)
    · obtain rfl : n = m.length := by omega
      refine xSl 9 (vV (.bool (porB m x))) (fun E _ => by rw [← poD_all m x]; kernel_rfl) ?_
      generalize porB m x = pc
      cases pb
      · refine xR 18 [(3, dF q5)] ?_
        exact (xRetC [])
      · refine xR 18 [(3, dF q5)] ?_
        exact (xRetC [])
end Go.Proofs.Ytlfekknonjlopaa
