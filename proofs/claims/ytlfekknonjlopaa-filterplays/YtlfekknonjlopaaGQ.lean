/- Which rule matches: the document's answer is the same. -/
import Derived.Test.YtlfekknonjlopaaGP
import Derived.Test.YtlfekknonjlopaaXZ
namespace Go.Proofs.Ytlfekknonjlopaa
open Go.RowKit
set_option linter.unusedVariables false
set_option linter.unusedSimpArgs false
set_option maxHeartbeats 0
set_option maxRecDepth 100000
variable {C : World → Prop}
def inD (s : Spn) (a : Adr) : Bool := spaB s && (mayB a && (decide (s.a.v = a.v) && (!lesB a s.a && !lesB s.b a)))
theorem inD_B (s : Spn) (a : Adr) : inD s a = inB s a := by
  obtain ⟨⟨v, h, l⟩, w, i, m⟩ := s
  obtain ⟨u, j, k⟩ := a
  rw [Bool.eq_iff_iff]
  simp only [inD, inB, spaB, mayB, Bool.and_eq_true, Bool.or_eq_true, Bool.not_eq_true', decide_eq_true_iff]
  constructor
  · rintro ⟨h1, h2, h3, h4, h5⟩
    exact ⟨h4, h5, h1⟩
  · rintro ⟨h4, h5, h1, h2, h3, h6⟩
    refine ⟨⟨h1, h2, h3, h6⟩, ?_, ?_, h4, h5⟩
    · obtain rfl : v = w := h3
      simp only [lesB] at h4 h5 h6
      cases u
      · right
        cases v
        · simp only [Bool.false_eq_true, false_or] at h1 h2
          simp only [beq_self_eq_true, if_true] at h4 h5
          split at h4 <;> split at h5 <;> simp_all <;> omega
        · simp at h4
      · exact .inl rfl
    · obtain rfl : v = w := h3
      simp only [lesB] at h4 h5
      cases u <;> cases v <;> first | rfl | simp at h4 h5
section
variable {P : Program} {S : Seat P} {C : World → Prop}
/-- Some cells of a row. -/
def dLdRp (t : TypeId) (b : Nat) {T : List Blk} {K n : Nat} {F : Nat → Nat → Value} {base : Option Addr} {g o : Nat} (H : SlO T K n F base g o) (i j k off : Nat) (h : i < n) (hj : Nat.ble (j + k) K = true := by kernel_rfl) (ho : off = o + i * K + j := by rfl) (hs : Nat.beq k (sizeT P t) = true := by kernel_rfl) (ha : aggT P t = some true := by kernel_rfl) : Dr S C :=
  dRdX (oOp 2 t 0 [] [vV (.pointer (some ⟨g, off, none⟩))]) b T (vG (((List.range k).map fun m => F i (j + m)).map vV)) fun E w _ _ hT => by
    obtain ⟨-, Z, e, fr, hm, hz⟩ := H (by omega)
    have hh := hT _ hm
    subst ho
    have hjk : j + k ≤ K := Nat.le_of_ble_eq_true hj
    rw [vG_map]
    exact load_row (cs := (List.range k).map fun m => F i (j + m)) ha (by rw [List.length_map, List.length_range]; exact nbeq.1 hs) (info_some ha) fun m x hx => by
      obtain ⟨hm2, hx⟩ := List.getElem?_eq_some_iff.1 hx
      simp only [List.length_map, List.length_range] at hm2
      simp only [List.getElem_map, List.getElem_range] at hx
      subst hx
      rw [cell_atR hh]
      rw [Nat.add_assoc]
      exact hz i (j + m) h (by omega)
end
theorem c_InD (a : Adr) (T : List Blk) (l : List Spn) (v : Value) (hv : spT T l v) (hl : l.length ≤ 1048576) : Ct S0 C 39 [vV v, adS a] [tX T] [] [] [] (vV (.bool (l.any fun s => inB s a))) := by
  obtain ⟨base, cap, b0, o, rfl, H⟩ := hv
  have e : (l.any fun s => inB s a) = l.any fun s => inD s a := by congr 1; funext s; rw [inD_B]
  rw [e]
  rcases fst_ix (fun s => inD s a) sp0 l with ⟨k, h1, h2, h3, h4⟩ | ⟨h1, h2⟩
  · rw [h4]
    refine xIn Try.f39 fun E0 w0 hL hC hk => ?_
    refine xR 11 [] ?_
    refine xLp (fun (n : Nat) => [(5, vV (.int .i64 (n : Int)))]) (fun x => []) [6, 7, 8, 9, 12, 13, 14, 15, 16, 17, 18, 19, 20, 21, 22, 23, 24, 25, 26, 27, 28, 29, 30, 31, 32, 33, 34, 35, 36, 37, 38, 39, 40, 41, 42, 43, 44, 45, 46, 47, 48, 49, 50, 51, 4, 10, 11] (fun n => n ≤ k) (fun n => k - n) 0 (Nat.zero_le _) fun n d hx g => ?_
    have q3 : (n : Int) < (l.length : Int) := by omega
    have k1 : ∀ C, Ct S0 C 52 [spS (l.getD n sp0)] [] [] [] [] (vV (.bool (spaB (l.getD n sp0)))) := fun C => c_spanD _ _ _ _ _ _
    have k2 : ∀ C, Ct S0 C 53 [adS a] [] [] [] [] (vV (.bool (mayB a))) := fun C => c_mayD _ _ _
    have k3 : ∀ C, Ct S0 C 54 [adS a, adS (l.getD n sp0).a] [] [] [] [] (vV (.bool (lesB a (l.getD n sp0).a))) := fun C => c_lessD _ _ _ _ _ _
    have k4 : ∀ C, Ct S0 C 54 [adS (l.getD n sp0).b, adS a] [] [] [] [] (vV (.bool (lesB (l.getD n sp0).b a))) := fun C => c_lessD _ _ _ _ _ _
    by_cases q4 : n = k
    · subst q4
      have hq : inD (l.getD n sp0) a = true := h3
      have he : ((l.getD n sp0).a.v == a.v) = decide ((l.getD n sp0).a.v = a.v) := rfl
      simp only [inD] at hq
      rw [← he] at hq
      clear he
      simp only [Bool.and_eq_true, Bool.not_eq_true'] at hq
      obtain ⟨e1, e2, e3, e4, e5⟩ := hq
      rw [e1] at k1
      rw [e2] at k2
      rw [e4] at k3
      rw [e5] at k4
      clear e1 e2 e4 e5 h2 h3
      refine xR 19 [(3, dT q3), (6, dIxR 64 H cap n h1), (7, dLdR 73 0 H n h1), (8, dC (k1 _) []), (11, dC (k2 _) []), (16, dIxR 64 H cap n h1), (19, dLdR1 4 0 H n 0 (o + n * 6) h1), (22, dB e3), (28, dIxR 64 H cap n h1), (30, dLdRp 39 0 H n 0 3 (o + n * 6) h1), (31, dC (k3 _) []), (37, dIxR 64 H cap n h1), (39, dLdRp 39 0 H n 3 3 (o + n * 6 + 3) h1), (41, dC (k4 _) [])] ?_
      exact (xRetC [])
    · clear h3 h4
      obtain hq : inD (l.getD n sp0) a = false := h2 n (by omega)
      have he : ((l.getD n sp0).a.v == a.v) = decide ((l.getD n sp0).a.v = a.v) := rfl
      simp only [inD] at hq
      rw [← he] at hq
      clear he
      generalize spaB (l.getD n sp0) = m1 at k1 hq
      generalize mayB a = m2 at k2 hq
      generalize lesB a (l.getD n sp0).a = m3 at k3 hq
      generalize lesB (l.getD n sp0).b a = m4 at k4 hq
      cases m1
      · refine xR 22 [(3, dT q3), (6, dIxR 64 H cap n (by omega)), (7, dLdR 73 0 H n (by omega)), (8, dC (k1 _) []), (45, dW ((↑n : Int) + 1) ((↑(n + 1) : Int)) (by omega) (by omega) (by omega))] ?_
        exact xNx g (n + 1) [6, 7, 8, 9, 12, 13, 14, 15, 16, 17, 18, 19, 20, 21, 22, 23, 24, 25, 26, 27, 28, 29, 30, 31, 32, 33, 34, 35, 36, 37, 38, 39, 40, 41, 42, 43, 44, 45, 46, 47, 48, 49, 50, 51, 4, 10, 11] [0, 1] (by omega) (by omega)
      · cases m2
        · refine xR 22 [(3, dT q3), (6, dIxR 64 H cap n (by omega)), (7, dLdR 73 0 H n (by omega)), (8, dC (k1 _) []), (11, dC (k2 _) []), (45, dW ((↑n : Int) + 1) ((↑(n + 1) : Int)) (by omega) (by omega) (by omega))] ?_
          exact xNx g (n + 1) [6, 7, 8, 9, 12, 13, 14, 15, 16, 17, 18, 19, 20, 21, 22, 23, 24, 25, 26, 27, 28, 29, 30, 31, 32, 33, 34, 35, 36, 37, 38, 39, 40, 41, 42, 43, 44, 45, 46, 47, 48, 49, 50, 51, 4, 10, 11] [0, 1] (by omega) (by omega)
        · cases h7 : (l.getD n sp0).a.v == a.v
          · refine xR 22 [(3, dT q3), (6, dIxR 64 H cap n (by omega)), (7, dLdR 73 0 H n (by omega)), (8, dC (k1 _) []), (11, dC (k2 _) []), (16, dIxR 64 H cap n (by omega)), (19, dLdR1 4 0 H n 0 (o + n * 6) (by omega)), (22, dB h7), (45, dW ((↑n : Int) + 1) ((↑(n + 1) : Int)) (by omega) (by omega) (by omega))] ?_
            exact xNx g (n + 1) [6, 7, 8, 9, 12, 13, 14, 15, 16, 17, 18, 19, 20, 21, 22, 23, 24, 25, 26, 27, 28, 29, 30, 31, 32, 33, 34, 35, 36, 37, 38, 39, 40, 41, 42, 43, 44, 45, 46, 47, 48, 49, 50, 51, 4, 10, 11] [0, 1] (by omega) (by omega)
          · cases m3
            · cases m4
              · rw [h7] at hq
                cases hq
              · refine xR 22 [(3, dT q3), (6, dIxR 64 H cap n (by omega)), (7, dLdR 73 0 H n (by omega)), (8, dC (k1 _) []), (11, dC (k2 _) []), (16, dIxR 64 H cap n (by omega)), (19, dLdR1 4 0 H n 0 (o + n * 6) (by omega)), (22, dB h7), (28, dIxR 64 H cap n (by omega)), (30, dLdRp 39 0 H n 0 3 (o + n * 6) (by omega)), (31, dC (k3 _) []), (37, dIxR 64 H cap n (by omega)), (39, dLdRp 39 0 H n 3 3 (o + n * 6 + 3) (by omega)), (41, dC (k4 _) []), (45, dW ((↑n : Int) + 1) ((↑(n + 1) : Int)) (by omega) (by omega) (by omega))] ?_
                exact xNx g (n + 1) [6, 7, 8, 9, 12, 13, 14, 15, 16, 17, 18, 19, 20, 21, 22, 23, 24, 25, 26, 27, 28, 29, 30, 31, 32, 33, 34, 35, 36, 37, 38, 39, 40, 41, 42, 43, 44, 45, 46, 47, 48, 49, 50, 51, 4, 10, 11] [0, 1] (by omega) (by omega)
            · refine xR 22 [(3, dT q3), (6, dIxR 64 H cap n (by omega)), (7, dLdR 73 0 H n (by omega)), (8, dC (k1 _) []), (11, dC (k2 _) []), (16, dIxR 64 H cap n (by omega)), (19, dLdR1 4 0 H n 0 (o + n * 6) (by omega)), (22, dB h7), (28, dIxR 64 H cap n (by omega)), (30, dLdRp 39 0 H n 0 3 (o + n * 6) (by omega)), (31, dC (k3 _) []), (45, dW ((↑n : Int) + 1) ((↑(n + 1) : Int)) (by omega) (by omega) (by omega))] ?_
              exact xNx g (n + 1) [6, 7, 8, 9, 12, 13, 14, 15, 16, 17, 18, 19, 20, 21, 22, 23, 24, 25, 26, 27, 28, 29, 30, 31, 32, 33, 34, 35, 36, 37, 38, 39, 40, 41, 42, 43, 44, 45, 46, 47, 48, 49, 50, 51, 4, 10, 11] [0, 1] (by omega) (by omega)
  · rw [h2]
    refine xIn Try.f39 fun E0 w0 hL hC hk => ?_
    refine xR 11 [] ?_
    refine xLp (fun (n : Nat) => [(5, vV (.int .i64 (n : Int)))]) (fun x => []) [6, 7, 8, 9, 12, 13, 14, 15, 16, 17, 18, 19, 20, 21, 22, 23, 24, 25, 26, 27, 28, 29, 30, 31, 32, 33, 34, 35, 36, 37, 38, 39, 40, 41, 42, 43, 44, 45, 46, 47, 48, 49, 50, 51, 4, 10, 11] (fun n => n ≤ l.length) (fun n => l.length - n) 0 (Nat.zero_le _) fun n d hx g => ?_
    by_cases q3 : (n : Int) < (l.length : Int)
    · clear h2
      have k1 : ∀ C, Ct S0 C 52 [spS (l.getD n sp0)] [] [] [] [] (vV (.bool (spaB (l.getD n sp0)))) := fun C => c_spanD _ _ _ _ _ _
      have k2 : ∀ C, Ct S0 C 53 [adS a] [] [] [] [] (vV (.bool (mayB a))) := fun C => c_mayD _ _ _
      have k3 : ∀ C, Ct S0 C 54 [adS a, adS (l.getD n sp0).a] [] [] [] [] (vV (.bool (lesB a (l.getD n sp0).a))) := fun C => c_lessD _ _ _ _ _ _
      have k4 : ∀ C, Ct S0 C 54 [adS (l.getD n sp0).b, adS a] [] [] [] [] (vV (.bool (lesB (l.getD n sp0).b a))) := fun C => c_lessD _ _ _ _ _ _
      obtain hq : inD (l.getD n sp0) a = false := h1 n (by omega)
      have he : ((l.getD n sp0).a.v == a.v) = decide ((l.getD n sp0).a.v = a.v) := rfl
      simp only [inD] at hq
      rw [← he] at hq
      clear he
      generalize spaB (l.getD n sp0) = m1 at k1 hq
      generalize mayB a = m2 at k2 hq
      generalize lesB a (l.getD n sp0).a = m3 at k3 hq
      generalize lesB (l.getD n sp0).b a = m4 at k4 hq
      cases m1
      · refine xR 22 [(3, dT q3), (6, dIxR 64 H cap n (by omega)), (7, dLdR 73 0 H n (by omega)), (8, dC (k1 _) []), (45, dW ((↑n : Int) + 1) ((↑(n + 1) : Int)) (by omega) (by omega) (by omega))] ?_
        exact xNx g (n + 1) [6, 7, 8, 9, 12, 13, 14, 15, 16, 17, 18, 19, 20, 21, 22, 23, 24, 25, 26, 27, 28, 29, 30, 31, 32, 33, 34, 35, 36, 37, 38, 39, 40, 41, 42, 43, 44, 45, 46, 47, 48, 49, 50, 51, 4, 10, 11] [0, 1] (by omega) (by omega)
      · cases m2
        · refine xR 22 [(3, dT q3), (6, dIxR 64 H cap n (by omega)), (7, dLdR 73 0 H n (by omega)), (8, dC (k1 _) []), (11, dC (k2 _) []), (45, dW ((↑n : Int) + 1) ((↑(n + 1) : Int)) (by omega) (by omega) (by omega))] ?_
          exact xNx g (n + 1) [6, 7, 8, 9, 12, 13, 14, 15, 16, 17, 18, 19, 20, 21, 22, 23, 24, 25, 26, 27, 28, 29, 30, 31, 32, 33, 34, 35, 36, 37, 38, 39, 40, 41, 42, 43, 44, 45, 46, 47, 48, 49, 50, 51, 4, 10, 11] [0, 1] (by omega) (by omega)
        · cases h7 : (l.getD n sp0).a.v == a.v
          · refine xR 22 [(3, dT q3), (6, dIxR 64 H cap n (by omega)), (7, dLdR 73 0 H n (by omega)), (8, dC (k1 _) []), (11, dC (k2 _) []), (16, dIxR 64 H cap n (by omega)), (19, dLdR1 4 0 H n 0 (o + n * 6) (by omega)), (22, dB h7), (45, dW ((↑n : Int) + 1) ((↑(n + 1) : Int)) (by omega) (by omega) (by omega))] ?_
            exact xNx g (n + 1) [6, 7, 8, 9, 12, 13, 14, 15, 16, 17, 18, 19, 20, 21, 22, 23, 24, 25, 26, 27, 28, 29, 30, 31, 32, 33, 34, 35, 36, 37, 38, 39, 40, 41, 42, 43, 44, 45, 46, 47, 48, 49, 50, 51, 4, 10, 11] [0, 1] (by omega) (by omega)
          · cases m3
            · cases m4
              · rw [h7] at hq
                cases hq
              · refine xR 22 [(3, dT q3), (6, dIxR 64 H cap n (by omega)), (7, dLdR 73 0 H n (by omega)), (8, dC (k1 _) []), (11, dC (k2 _) []), (16, dIxR 64 H cap n (by omega)), (19, dLdR1 4 0 H n 0 (o + n * 6) (by omega)), (22, dB h7), (28, dIxR 64 H cap n (by omega)), (30, dLdRp 39 0 H n 0 3 (o + n * 6) (by omega)), (31, dC (k3 _) []), (37, dIxR 64 H cap n (by omega)), (39, dLdRp 39 0 H n 3 3 (o + n * 6 + 3) (by omega)), (41, dC (k4 _) []), (45, dW ((↑n : Int) + 1) ((↑(n + 1) : Int)) (by omega) (by omega) (by omega))] ?_
                exact xNx g (n + 1) [6, 7, 8, 9, 12, 13, 14, 15, 16, 17, 18, 19, 20, 21, 22, 23, 24, 25, 26, 27, 28, 29, 30, 31, 32, 33, 34, 35, 36, 37, 38, 39, 40, 41, 42, 43, 44, 45, 46, 47, 48, 49, 50, 51, 4, 10, 11] [0, 1] (by omega) (by omega)
            · refine xR 22 [(3, dT q3), (6, dIxR 64 H cap n (by omega)), (7, dLdR 73 0 H n (by omega)), (8, dC (k1 _) []), (11, dC (k2 _) []), (16, dIxR 64 H cap n (by omega)), (19, dLdR1 4 0 H n 0 (o + n * 6) (by omega)), (22, dB h7), (28, dIxR 64 H cap n (by omega)), (30, dLdRp 39 0 H n 0 3 (o + n * 6) (by omega)), (31, dC (k3 _) []), (45, dW ((↑n : Int) + 1) ((↑(n + 1) : Int)) (by omega) (by omega) (by omega))] ?_
              exact xNx g (n + 1) [6, 7, 8, 9, 12, 13, 14, 15, 16, 17, 18, 19, 20, 21, 22, 23, 24, 25, 26, 27, 28, 29, 30, 31, 32, 33, 34, 35, 36, 37, 38, 39, 40, 41, 42, 43, 44, 45, 46, 47, 48, 49, 50, 51, 4, 10, 11] [0, 1] (by omega) (by omega)
    · refine xR 14 [(3, dF q3)] ?_
      exact (xRetC [])
end Go.Proofs.Ytlfekknonjlopaa
