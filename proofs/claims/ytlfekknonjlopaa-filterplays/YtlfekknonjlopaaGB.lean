/- What is handed in to be played; copies of rules. -/
import Derived.Test.YtlfekknonjlopaaGA
import Derived.Test.YtlfekknonjlopaaXZ
namespace Go.Proofs.Ytlfekknonjlopaa
open Go.RowKit
set_option linter.unusedVariables false
set_option linter.unusedSimpArgs false
set_option maxHeartbeats 0
set_option maxRecDepth 100000
variable {C : World → Prop}
structure Stp where
  o : Int
  h : Hed
  n : Int
  r : List Rul
def he0 : Hed := ⟨(0, aZ, aZ, 0, 0), 0, 0, 0, 0⟩
def st0 : Stp := ⟨0, he0, 0, []⟩
def stC (s : Stp) (v : Value) : List Value := [.int .i64 s.o, .int .u8 s.h.f.p, .bool s.h.f.s.v, .int .u64 s.h.f.s.h, .int .u64 s.h.f.s.l, .bool s.h.f.d.v, .int .u64 s.h.f.d.h, .int .u64 s.h.f.d.l, .int .u16 s.h.f.fr, .int .u16 s.h.f.to, .int .u8 s.h.g, .int .u8 s.h.k, .int .u8 s.h.c, .int .i64 s.h.z, .int .u64 s.n, v]
abbrev stF (S : List Stp) (rv : Nat → Value) : Nat → Nat → Value := fun i j => (stC (S.getD i st0) (rv i)).getD j undef
def stpT (T : List Blk) (S : List Stp) (v : Value) : Prop := ∃ rv, Sl T 16 S.length (stF S rv) v ∧ ∀ i, i < S.length → rulT T (S.getD i st0).r (rv i)
def stpOk (S : List Stp) : Prop := S.length ≤ 1048576 ∧ ∀ i, rulOk (S.getD i st0).r
def szA (l : List Rul) : Nat := szR l (min l.length 100)
def hvR (l : List Rul) (S : List Stp) : Nat → Nat
  | 0 => szA l
  | x + 1 => hvR l S x + szA (S.getD x st0).r
def heF (l : List Rul) (S : List Stp) : Bool := decide ((hvR l S (min S.length 300) : Int) > 600) || decide ((S.length : Int) > 200)
theorem szA_le {l : List Rul} (h : rulOk l) : szA l ≤ 420478976 := by
  have := szR_le h (min l.length 100)
  unfold szA
  omega
theorem hvR_le {l : List Rul} {S : List Stp} (h : rulOk l) (hS : stpOk S) : ∀ x, hvR l S x ≤ 420478976 + x * 420478976
  | 0 => by have := szA_le h; unfold hvR; omega
  | x + 1 => by
    have := hvR_le h hS x
    have := szA_le (hS.2 x)
    unfold hvR
    omega
theorem c_heavy (T : List Blk) (l : List Rul) (v : Value) (S : List Stp) (u : Value) (hv : rulT T l v) (ho : rulOk l) (hu : stpT T S u) (hS : stpOk S) : Ct S0 C 7 [vV v, vV u] [tX T] [] [] [] (vV (.bool (heF l S))) := by
  obtain ⟨rv, ⟨base, cap, b0, o, rfl, H⟩, hF⟩ := hu
  have cS := fun C => c_size (C := C) T l v hv ho
  refine xIn Try.f7 fun E0 w0 hL hC hk => ?_
  refine xR 16 [(2, dC (cS _) [0])] ?_
  refine xLp (fun (x : Nat) => [(6, vV (.int .i64 (x : Int))), (5, vV (.int .i64 (hvR l S x : Int)))]) (fun x => []) [9, 10, 11, 12, 13, 14, 15, 16, 19, 20, 21, 22, 23, 24, 25, 26, 17, 18] (fun x => x ≤ min S.length 300) (fun x => 300 - x) 0 (Nat.zero_le _) fun x d hx g => ?_
  have q0 := hvR_le ho hS x
  have q00 := hS.1
  have q01 := szA_le (hS.2 x)
  by_cases q1 : (x : Int) < (S.length : Int)
  · by_cases q2 : (x : Int) < 300
    · have cX : ∀ C, Ct S0 C 25 [vV (rv x)] [tX T] [] [] [] (vV (.int .i64 (szA (S.getD x st0).r : Int))) := fun C => c_size T (S.getD x st0).r (rv x) (hF x (by omega)) (hS.2 x)
      refine xR 33 [(3, dT q1), (6, dT q2), (11, dIxR 24 H cap x (by omega)), (13, dLdR1 22 0 H x 15 (o + x * 16 + 15) (by omega)), (14, dC (cX _) [0]), (15, dW ((↑(hvR l S x) : Int) + (↑(szA (S.getD x st0).r) : Int)) ((↑(hvR l S x + szA (S.getD x st0).r) : Int)) (by omega) (by omega) (by omega)), (18, dW ((↑x : Int) + 1) ((↑(x + 1) : Int)) (by omega) (by omega) (by omega))] ?_
      exact xNx g (x + 1) [9, 10, 11, 12, 13, 14, 15, 16, 19, 20, 21, 22, 23, 24, 25, 26, 17, 18] [0] (by omega) (by omega)
    · have q3 : min S.length 300 = x := by omega
      have q4 : heF l S = (decide ((hvR l S x : Int) > 600) || decide ((S.length : Int) > 200)) := by rw [heF, q3]
      rw [q4]
      by_cases h1 : (↑(hvR l S x) : Int) > 600
      · refine xR 25 [(3, dT q1), (6, dF q2), (9, dT h1)] ?_
        exact xB (b' := true) (by simp [h1]) (xRetC [])
      · refine xR 25 [(3, dT q1), (6, dF q2), (9, dF h1), (13, dT (p := (↑S.length : Int) > 200) (by omega))] ?_
        exact xB (b' := true) (by simp [h1] <;> omega) (xRetC [])
  · have q3 : min S.length 300 = x := by omega
    have q4 : heF l S = (decide ((hvR l S x : Int) > 600) || decide ((S.length : Int) > 200)) := by rw [heF, q3]
    rw [q4]
    by_cases h1 : (↑(hvR l S x) : Int) > 600
    · refine xR 25 [(3, dF q1), (9, dT h1)] ?_
      exact xB (b' := true) (by simp [h1]) (xRetC [])
    · refine xR 25 [(3, dF q1), (9, dF h1)] ?_
      exact xB (b' := (decide ((↑S.length : Int) > 200))) (by simp [h1]) (xRetC [])
def dApp_rul (l : List Rul) (b1 b2 k1 k2 k3 k4 : Nat) (r : Rul) (hle : l.length < 500000) : Dr S0 C := dApp 22 22 67 4 (.agg #[.slice none 0 0, .slice none 0 0, .slice none 0 0, .slice none 0 0]) rulEl l r b1 b2 67 [vW k1, vW k2, vW k3, vW k4] [(k1, tD (Buf 1 5 r.p.length (r.p.flatMap u8C))), (k2, tD (Buf 6 73 r.s.length (r.s.flatMap spC))), (k3, tD (Buf 6 73 r.d.length (r.d.flatMap spC))), (k4, tD (Buf 2 75 r.t.length (r.t.flatMap ptC)))] hle (fun E h => ⟨_, _, _, _, (E k1).T, (E k2).T, (E k3).T, (E k4).T, rfl, by
  show (E k1).T ++ ((E k2).T ++ ((E k3).T ++ ((E k4).T ++ []))) = _
  rw [List.append_nil], h (k1, tD (Buf 1 5 r.p.length (r.p.flatMap u8C))) (by simp), h (k2, tD (Buf 6 73 r.s.length (r.s.flatMap spC))) (by simp), h (k3, tD (Buf 6 73 r.d.length (r.d.flatMap spC))) (by simp), h (k4, tD (Buf 2 75 r.t.length (r.t.flatMap ptC))) (by simp)⟩)
def dBldR (k1 k2 k3 k4 : Nat) : Dr S0 C := dBld 67 [vW k1, vW k2, vW k3, vW k4] [(0, 1), (1, 1), (2, 1), (3, 1)] [.slice none 0 0, .slice none 0 0, .slice none 0 0, .slice none 0 0] (fun E x hx => by
  simp only [List.mem_cons, List.mem_nil_iff, or_false] at hx
  rcases hx with rfl | rfl | rfl | rfl
  · exact (E k1).one
  · exact (E k2).one
  · exact (E k3).one
  · exact (E k4).one) (fun E => rfl) rfl rfl
def rpR (l : List Rul) : Nat → List Rul
  | 0 => []
  | x + 1 => rpR l x ++ [l.getD x ru0]
theorem rpR_take (l : List Rul) : ∀ x, x ≤ l.length → rpR l x = l.take x
  | 0, _ => rfl
  | x + 1, h => by rw [rpR, rpR_take l x (by omega), take_succD l ru0 x h]
theorem rpR_all (l : List Rul) : rpR l l.length = l := by rw [rpR_take l _ (Nat.le_refl _), List.take_length]
theorem rpR_len (l : List Rul) : ∀ x, (rpR l x).length = x
  | 0 => rfl
  | x + 1 => by rw [rpR, List.length_append, rpR_len l x]; rfl
theorem u8_one (l : List Int) : ∀ u ∈ l.flatMap u8C, u.oneCell' = true := by
  intro u hu
  obtain ⟨x, _, hx⟩ := List.mem_flatMap.1 hu
  simp [u8C] at hx
  subst hx
  rfl
theorem sp_one (l : List Spn) : ∀ u ∈ l.flatMap spC, u.oneCell' = true := by
  intro u hu
  obtain ⟨x, _, hx⟩ := List.mem_flatMap.1 hu
  simp [spC] at hx
  rcases hx with rfl | rfl | rfl | rfl | rfl | rfl <;> rfl
theorem pt_one (l : List Prt) : ∀ u ∈ l.flatMap ptC, u.oneCell' = true := by
  intro u hu
  obtain ⟨x, _, hx⟩ := List.mem_flatMap.1 hu
  simp [ptC] at hx
  rcases hx with rfl | rfl <;> rfl
theorem c_copied (T : List Blk) (l : List Rul) (v : Value) (hv : rulT T l v) (ho : rulOk l) (hl : l.length < 400000) : Ct S0 C 9 [vV v] [tX T] [] [] [tD (rulD l)] (vW 1) := by
  obtain ⟨F, ⟨base, cap, b0, o, rfl, H⟩, hF⟩ := hv
  refine xIn Try.f9 fun E0 w0 hL hC hk => ?_
  refine xR 14 [] ?_
  refine xPack (vV (.slice none 0 0)) [] (rulD (rpR l 0)) [3] [] (fun _ _ => ⟨rfl, row_nil _ _ _⟩) ?_
  refine xLp (fun (x : Nat) => [(4, vV (.int .i64 (x : Int))), (3, vW 1)]) (fun x => [(1, tD (rulD (rpR l x)))]) [6, 7, 8, 9, 12, 13, 14, 15, 5, 16, 17, 18, 19, 20, 21, 22, 23, 24, 25, 26, 27, 28, 29, 30, 31, 10, 11] (fun x => x ≤ l.length) (fun x => l.length - x) 0 (Nat.zero_le _) fun x d hx g => ?_
  by_cases q1 : (x : Int) < (l.length : Int)
  · have hi := hF x (by omega)
    obtain ⟨a1, c1, g1, o1, z1, -⟩ := hi.p
    obtain ⟨a2, c2, g2, o2, z2, -⟩ := hi.s
    obtain ⟨a3, c3, g3, o3, z3, -⟩ := hi.d
    obtain ⟨a4, c4, g4, o4, z4, -⟩ := hi.t
    have e1 : u8T T (l.getD x ru0).p (.slice a1 (l.getD x ru0).p.length c1) := z1 ▸ hi.p
    have e2 : spT T (l.getD x ru0).s (.slice a2 (l.getD x ru0).s.length c2) := z2 ▸ hi.s
    have e3 : spT T (l.getD x ru0).d (.slice a3 (l.getD x ru0).d.length c3) := z3 ▸ hi.d
    have e4 : ptT T (l.getD x ru0).t (.slice a4 (l.getD x ru0).t.length c4) := z4 ▸ hi.t
    obtain ⟨k1, k2, k3, k4⟩ := ho.2 x
    refine xR 22 [(3, dT q1), (6, dIxR 22 H cap x (by omega)), (7, dLdRe 67 0 H x [.slice a1 (l.getD x ru0).p.length c1, .slice a2 (l.getD x ru0).s.length c2, .slice a3 (l.getD x ru0).d.length c3, .slice a4 (l.getD x ru0).t.length c4] (by omega) (four z1 z2 z3 z4)), (13, dApN 63 63 5 1 (.int .u8 0) true (vV (.slice none 0 0)) (fun _ => ⟨none, rfl⟩) 0 (.slice a1 (l.getD x ru0).p.length c1) e1 ((l.getD x ru0).p.flatMap u8C) (row_flat 1 u8C (fun _ => rfl) 0 _) (u8_one _) (by omega)), (16, dApN 64 64 73 6 (.agg #[.bool false, .int .u64 0, .int .u64 0, .bool false, .int .u64 0, .int .u64 0]) true (vV (.slice none 0 0)) (fun _ => ⟨none, rfl⟩) 0 (.slice a2 (l.getD x ru0).s.length c2) e2 ((l.getD x ru0).s.flatMap spC) (row_flat 6 spC (fun _ => rfl) sp0 _) (sp_one _) (by omega)), (19, dApN 64 64 73 6 (.agg #[.bool false, .int .u64 0, .int .u64 0, .bool false, .int .u64 0, .int .u64 0]) true (vV (.slice none 0 0)) (fun _ => ⟨none, rfl⟩) 0 (.slice a3 (l.getD x ru0).d.length c3) e3 ((l.getD x ru0).d.flatMap spC) (row_flat 6 spC (fun _ => rfl) sp0 _) (sp_one _) (by omega)), (22, dApN 65 65 75 2 (.agg #[.int .u16 0, .int .u16 0]) true (vV (.slice none 0 0)) (fun _ => ⟨none, rfl⟩) 0 (.slice a4 (l.getD x ru0).t.length c4) e4 ((l.getD x ru0).t.flatMap ptC) (row_flat 2 ptC (fun _ => rfl) pt0 _) (pt_one _) (by omega)), (23, dBldR 3 4 5 6), (25, dApp_rul (rpR l x) 1 7 3 4 5 6 (l.getD x ru0) (by rw [rpR_len]; omega))] ?_
    refine xR 6 [(1, dW ((↑x : Int) + 1) ((↑(x + 1) : Int)) (by omega) (by omega) (by omega))] ?_
    exact xNx g (x + 1) [6, 7, 8, 9, 12, 13, 14, 15, 5, 16, 17, 18, 19, 20, 21, 22, 23, 24, 25, 26, 27, 28, 29, 30, 31, 10, 11] [0, 8] (by omega) (by omega)
  · have q2 : x = l.length := by omega
    subst q2
    refine xWk (D := rulD (rpR l l.length)) 1 (rulD l) (fun v T h => by rw [rpR_all] at h; exact h) ?_
    refine xR 15 [(3, dF q1)] ?_
    exact (xRetC [1])
end Go.Proofs.Ytlfekknonjlopaa
