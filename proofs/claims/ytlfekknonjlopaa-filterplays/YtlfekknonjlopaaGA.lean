/- Rules that lie somewhere: how many there are, copies. -/
import Derived.Test.YtlfekknonjlopaaG9
import Derived.Test.YtlfekknonjlopaaXZ
namespace Go.Proofs.Ytlfekknonjlopaa
open Go.RowKit
set_option linter.unusedVariables false
set_option linter.unusedSimpArgs false
set_option maxHeartbeats 0
set_option maxRecDepth 100000
variable {C : World → Prop}
def aZ : Adr := (false, 0, 0)
def sp0 : Spn := (aZ, aZ)
def pt0 : Prt := (0, 0)
def ru0 : Rul := ([], [], [], [])
abbrev u8F (l : List Int) : Nat → Nat → Value := fun i j => (u8C (l.getD i 0)).getD j undef
abbrev spF (l : List Spn) : Nat → Nat → Value := fun i j => (spC (l.getD i sp0)).getD j undef
abbrev ptF (l : List Prt) : Nat → Nat → Value := fun i j => (ptC (l.getD i pt0)).getD j undef
abbrev u8T (T : List Blk) (l : List Int) (v : Value) : Prop := Sl T 1 l.length (u8F l) v
abbrev spT (T : List Blk) (l : List Spn) (v : Value) : Prop := Sl T 6 l.length (spF l) v
abbrev ptT (T : List Blk) (l : List Prt) (v : Value) : Prop := Sl T 2 l.length (ptF l) v
structure RulI (T : List Blk) (r : Rul) (F : Nat → Value) : Prop where
  p : u8T T r.p (F 0)
  s : spT T r.s (F 1)
  d : spT T r.d (F 2)
  t : ptT T r.t (F 3)
def rulT (T : List Blk) (l : List Rul) (v : Value) : Prop := ∃ F, Sl T 4 l.length F v ∧ ∀ i, i < l.length → RulI T (l.getD i ru0) (F i)
/-- Sizes that are no more than what can be handed in. -/
def Rul.ok (r : Rul) : Prop := r.p.length ≤ 1048576 ∧ r.s.length ≤ 1048576 ∧ r.d.length ≤ 1048576 ∧ r.t.length ≤ 1048576
def rulOk (l : List Rul) : Prop := l.length ≤ 1048576 ∧ ∀ i, (l.getD i ru0).ok
def szR (l : List Rul) : Nat → Nat
  | 0 => l.length
  | x + 1 => szR l x + (l.getD x ru0).p.length + (l.getD x ru0).s.length + (l.getD x ru0).d.length + (l.getD x ru0).t.length
theorem szR_le {l : List Rul} (h : rulOk l) : ∀ x, szR l x ≤ 1048576 + x * 4194304
  | 0 => by have := h.1; unfold szR; omega
  | x + 1 => by
    have := szR_le h x
    obtain ⟨h1, h2, h3, h4⟩ := h.2 x
    unfold szR
    omega
theorem c_size (T : List Blk) (l : List Rul) (v : Value) (hv : rulT T l v) (ho : rulOk l) : Ct S0 C 25 [vV v] [tX T] [] [] [] (vV (.int .i64 (szR l (min l.length 100) : Nat))) := by
  obtain ⟨F, ⟨base, cap, b0, o, rfl, H⟩, hF⟩ := hv
  refine xIn Try.f25 fun E0 w0 hL hC hk => ?_
  refine xR 16 [] ?_
  refine xLp (fun (x : Nat) => [(4, vV (.int .i64 (x : Int))), (3, vV (.int .i64 (szR l x : Int)))]) (fun x => []) [7, 8, 9, 10, 11, 12, 13, 14, 17, 18, 19, 20, 21, 22, 23, 24, 25, 26, 27, 28, 29, 30, 31, 32, 33, 34, 35, 36, 37, 38, 39, 40, 41, 42, 43, 44, 45, 15, 16] (fun x => x ≤ min l.length 100) (fun x => 100 - x) 0 (Nat.zero_le _) fun x d hx g => ?_
  have q0 := szR_le ho x
  have q00 := ho.1
  by_cases q1 : (x : Int) < (l.length : Int)
  · by_cases q2 : (x : Int) < 100
    · have hi := hF x (by omega)
      have e1 : u8T T (l.getD x ru0).p (F x 0) := hi.p
      have e2 : spT T (l.getD x ru0).s (F x 1) := hi.s
      have e3 : spT T (l.getD x ru0).d (F x 2) := hi.d
      have e4 : ptT T (l.getD x ru0).t (F x 3) := hi.t
      obtain ⟨k1, k2, k3, k4⟩ := ho.2 x
      refine xR 23 [(3, dT q1), (6, dT q2), (11, dIxR 22 H cap x (by omega)), (13, dLdR1 63 0 H x 0 (o + x * 4) (by omega)), (14, dLenS 63 3 (F x 0) e1), (15, dW ((↑(szR l x) : Int) + (↑(l.getD x ru0).p.length : Int)) ((↑(szR l x + (l.getD x ru0).p.length) : Int)) (by omega) (by omega) (by omega)), (18, dIxR 22 H cap x (by omega)), (20, dLdR1 64 0 H x 1 (o + x * 4 + 1) (by omega)), (21, dLenS 64 3 (F x 1) e2), (22, dW ((↑(szR l x + (l.getD x ru0).p.length) : Int) + (↑(l.getD x ru0).s.length : Int)) ((↑(szR l x + (l.getD x ru0).p.length + (l.getD x ru0).s.length) : Int)) (by omega) (by omega) (by omega)), (25, dIxR 22 H cap x (by omega)), (27, dLdR1 64 0 H x 2 (o + x * 4 + 2) (by omega)), (28, dLenS 64 3 (F x 2) e3), (29, dW ((↑(szR l x + (l.getD x ru0).p.length + (l.getD x ru0).s.length) : Int) + (↑(l.getD x ru0).d.length : Int)) ((↑(szR l x + (l.getD x ru0).p.length + (l.getD x ru0).s.length + (l.getD x ru0).d.length) : Int)) (by omega) (by omega) (by omega)), (32, dIxR 22 H cap x (by omega)), (34, dLdR1 65 0 H x 3 (o + x * 4 + 3) (by omega)), (35, dLenS 65 3 (F x 3) e4), (36, dW ((↑(szR l x + (l.getD x ru0).p.length + (l.getD x ru0).s.length + (l.getD x ru0).d.length) : Int) + (↑(l.getD x ru0).t.length : Int)) ((↑(szR l x + (l.getD x ru0).p.length + (l.getD x ru0).s.length + (l.getD x ru0).d.length + (l.getD x ru0).t.length) : Int)) (by omega) (by omega) (by omega)), (39, dW ((↑x : Int) + 1) ((↑(x + 1) : Int)) (by omega) (by omega) (by omega))] ?_
      exact xNx g (x + 1) [7, 8, 9, 10, 11, 12, 13, 14, 17, 18, 19, 20, 21, 22, 23, 24, 25, 26, 27, 28, 29, 30, 31, 32, 33, 34, 35, 36, 37, 38, 39, 40, 41, 42, 43, 44, 45, 15, 16] [0] (by omega) (by omega)
    · have q3 : min l.length 100 = x := by omega
      rw [q3]
      refine xR 19 [(3, dT q1), (6, dF q2)] ?_
      exact (xRetC [])
  · have q3 : min l.length 100 = x := by omega
    rw [q3]
    refine xR 19 [(3, dF q1)] ?_
    exact (xRetC [])
end Go.Proofs.Ytlfekknonjlopaa
