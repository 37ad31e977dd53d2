/- FilterApart. -/
import Derived.Test.YtlfekknonjlopaaGK
import Derived.Test.YtlfekknonjlopaaXZ
namespace Go.Proofs.Ytlfekknonjlopaa
open Go.RowKit
set_option linter.unusedVariables false
set_option linter.unusedSimpArgs false
set_option maxHeartbeats 0
set_option maxRecDepth 100000
variable {C : World → Prop}
theorem hv_mono (l : List Rul) (S : List Stp) : ∀ x y, x ≤ y → hvR l S x ≤ hvR l S y
  | x, 0, h => by rw [show x = 0 by omega]; exact Nat.le_refl _
  | x, y + 1, h => by
    by_cases e : x = y + 1
    · rw [e]; exact Nat.le_refl _
    · have := hv_mono l S x y (by omega)
      have h5 : hvR l S (y + 1) = hvR l S y + szA (S.getD y st0).r := rfl
      omega
theorem szR_len (l : List Rul) : ∀ x, l.length ≤ szR l x
  | 0 => by unfold szR; omega
  | x + 1 => by
    have := szR_len l x
    unfold szR
    omega
/-- What is not heavy is short. -/
theorem light {l : List Rul} {S : List Stp} (h : heF l S = false) : l.length ≤ 600 ∧ S.length ≤ 200 ∧ ∀ i, i < S.length → (S.getD i st0).r.length ≤ 600 := by
  unfold heF at h
  simp only [Bool.or_eq_false_iff, decide_eq_false_iff_not] at h
  obtain ⟨h1, h2⟩ := h
  have h3 : min S.length 300 = S.length := by omega
  rw [h3] at h1
  refine ⟨?_, by omega, fun i hi => ?_⟩
  · have := hv_mono l S 0 S.length (Nat.zero_le _)
    have h4 := szR_len l (min l.length 100)
    have h5 : hvR l S 0 = szR l (min l.length 100) := rfl
    omega
  · have := hv_mono l S (i + 1) S.length hi
    have h4 := szR_len (S.getD i st0).r (min (S.getD i st0).r.length 100)
    have h5 : hvR l S (i + 1) = hvR l S i + szR (S.getD i st0).r (min (S.getD i st0).r.length 100) := rfl
    omega
def opA (o : Int) (rl : List Rul) (x : Flw) (a : Ans) (u : Int) : Int × Ans := if o = 0 then outS x a u else inS (matF rl x) x a u
def rlS (l : List Rul) (S : List Stp) : Nat → List Rul
  | 0 => l
  | n + 1 => if (S.getD n st0).o = 2 then (S.getD n st0).r else rlS l S n
theorem rlS_ok {l : List Rul} {S : List Stp} (P : List Rul → Prop) (h0 : P l) (h1 : ∀ i, i < S.length → P (S.getD i st0).r) : ∀ n, n ≤ S.length → P (rlS l S n)
  | 0, _ => h0
  | n + 1, h => by
    unfold rlS
    split
    · exact h1 n (by omega)
    · exact rlS_ok P h0 h1 n (by omega)
def mine (x : Flw) (s : Stp) : Bool := decide (s.h.f = x) || decide (s.h.f = revF x)
def zF (p : Int) : Flw := (p, aZ, aZ, 0, 0)
def runA (l : List Rul) (S : List Stp) (a : Ans) : Nat → Ans
  | 0 => a
  | n + 1 => if (S.getD n st0).o = 2 then runA l S a n else (opA (S.getD n st0).o (rlS l S n) (S.getD n st0).h.f (runA l S a n) (S.getD n st0).n).2
def runB (x z : Flw) (l : List Rul) (S : List Stp) (a : Ans) : Nat → Ans
  | 0 => a
  | n + 1 => if (S.getD n st0).o = 2 then runB x z l S a n else if mine x (S.getD n st0) = true then (opA (S.getD n st0).o (rlS l S n) (S.getD n st0).h.f (runB x z l S a n) (S.getD n st0).n).2 else (opA 1 (rlS l S n) z (runB x z l S a n) (S.getD n st0).n).2
theorem w64 {x : Int} (h0 : 0 ≤ x) (h1 : x < 18446744073709551616) : IntKind.wrap .u64 x = x := by
  simp only [IntKind.wrap]
  have : x % 18446744073709551616 = x := Int.emod_eq_of_lt h0 h1
  simpa [IntKind.bits, IntKind.signed] using this
abbrev apD : List Nat := [57, 58, 59, 60, 63, 64, 65, 66, 15, 67, 68, 69, 70, 71, 72, 73, 74, 75, 76, 77, 78, 16, 17, 18, 79, 80, 104, 103, 105, 106, 107, 108, 109, 110, 111, 112, 113, 114, 116, 115, 117, 118, 119, 120, 121, 122, 123, 124, 125, 126, 127, 128, 129, 130, 131, 132, 133, 134, 135, 136, 137, 138, 81, 82, 83, 84, 85, 86, 87, 88, 89, 90, 91, 92, 93, 94, 95, 96, 97, 98, 99, 100, 101, 102, 139, 140, 141, 142, 143, 144, 8, 61, 62]
theorem rn_length (x : Flw) (u : Int) : ∀ l : List Liv, (rnL x u l).length = l.length := rn_len x u
theorem op_len (o : Int) (rl : List Rul) (x : Flw) (a : Ans) (u : Int) : (opA o rl x a u).2.l.length ≤ a.l.length + 1 := by
  have h1 := ps_len a u
  have h2 : ∀ y, (rnA (psA a u) y).l.length = (psA a u).l.length := fun y => rn_len _ _ _
  have h3 : ∀ y z, (adA (rnA (psA a u) y) z).2.l.length ≤ (psA a u).l.length + 1 := fun y z => by
    unfold adA
    split
    · show (rnA (psA a u) y).l.length ≤ _
      rw [h2]; omega
    · show (List.length (_ ++ [_])) ≤ _
      rw [List.length_append, h2]
      simp
  unfold opA
  split
  · unfold outS
    split
    · show a.l.length ≤ _; omega
    · unfold outF
      split
      · show (rnA _ _).l.length ≤ _
        rw [h2]; omega
      · have := h3 (revF x) (revF x); omega
  · unfold inS
    split
    · show a.l.length ≤ _; omega
    · unfold inF
      split
      · show (psA a u).l.length ≤ _; omega
      · show (rnA _ _).l.length ≤ _
        rw [h2]; omega
theorem runA_len (l : List Rul) (S : List Stp) (a : Ans) : ∀ n, (runA l S a n).l.length ≤ a.l.length + n
  | 0 => Nat.le_refl _
  | n + 1 => by
    have := runA_len l S a n
    unfold runA
    split
    · omega
    · have := op_len (S.getD n st0).o (rlS l S n) (S.getD n st0).h.f (runA l S a n) (S.getD n st0).n
      omega
theorem runB_len (x z : Flw) (l : List Rul) (S : List Stp) (a : Ans) : ∀ n, (runB x z l S a n).l.length ≤ a.l.length + n
  | 0 => Nat.le_refl _
  | n + 1 => by
    have := runB_len x z l S a n
    unfold runB
    split
    · omega
    · split
      · have := op_len (S.getD n st0).o (rlS l S n) (S.getD n st0).h.f (runB x z l S a n) (S.getD n st0).n
        omega
      · have := op_len 1 (rlS l S n) z (runB x z l S a n) (S.getD n st0).n
        omega
abbrev rvS (S : List Stp) (bs : Nat → Option Addr × Nat) (i : Nat) : Value := .slice (bs i).1 (S.getD i st0).r.length (bs i).2
theorem stp_sl {T : List Blk} {S : List Stp} {u : Value} (hu : stpT T S u) : ∃ bs : Nat → Option Addr × Nat, Sl T 16 S.length (stF S (rvS S bs)) u ∧ ∀ i, i < S.length → rulT T (S.getD i st0).r (rvS S bs i) := by
  obtain ⟨rv, h1, h2⟩ := hu
  have hb : ∀ i, ∃ p : Option Addr × Nat, i < S.length → rv i = .slice p.1 (S.getD i st0).r.length p.2 := fun i => by
    by_cases hi : i < S.length
    · obtain ⟨F, ⟨base, cap, b0, o, e, -⟩, -⟩ := h2 i hi
      exact ⟨(base, cap), fun _ => e⟩
    · exact ⟨(none, 0), fun h => absurd h hi⟩
  obtain ⟨bs, hbs⟩ := Classical.axiomOfChoice hb
  refine ⟨bs, h1.congr fun i j hi hj => ?_, fun i hi => ?_⟩
  · show (stC _ (rv i)).getD j undef = (stC _ (rvS S bs i)).getD j undef
    rw [hbs i hi]
  · show rulT T _ (Value.slice _ _ _)
    rw [← hbs i hi]
    exact h2 i hi
abbrev xp (p : Int) : Int := IntKind.wrap .u8 ((BitVec.ofInt IntKind.u8.bits p ^^^ BitVec.ofInt IntKind.u8.bits 1).toNat : Int)
theorem xp_ne {p : Int} (h0 : 0 ≤ p) (h1 : p ≤ 255) : ¬ xp p = p := by
  obtain ⟨k, rfl⟩ : ∃ k : Nat, p = k := ⟨p.toNat, by omega⟩
  have h : ((List.range 256).all fun k => !decide (xp ((k : Nat) : Int) = ((k : Nat) : Int))) = true := by decide +kernel
  rw [List.all_eq_true] at h
  simpa using h k (List.mem_range.2 (by omega))
/-- Two that are the same to the flow x. -/
structure Sg (x : Flw) (a b : Ans) : Prop where
  m : a.most = b.most
  f : a.life = b.life
  n : a.now = b.now
  c : cls x a.l = cls x b.l
  r : cls (revF x) a.l = cls (revF x) b.l
theorem Sg.refl (x : Flw) (a : Ans) : Sg x a a := ⟨rfl, rfl, rfl, rfl, rfl⟩
theorem Sg.symm {x : Flw} {a b : Ans} (h : Sg x a b) : Sg x b a := ⟨h.m.symm, h.f.symm, h.n.symm, h.c.symm, h.r.symm⟩
theorem Sg.trans {x : Flw} {a b c : Ans} (h : Sg x a b) (k : Sg x b c) : Sg x a c := ⟨h.m.trans k.m, h.f.trans k.f, h.n.trans k.n, h.c.trans k.c, h.r.trans k.r⟩
theorem Sg.ps {x : Flw} {a b : Ans} (h : Sg x a b) (u : Int) : Sg x (psA a u) (psA b u) := by
  refine ⟨h.m, h.f, ?_, ?_, ?_⟩
  · show max a.now u = max b.now u
    rw [h.n]
  · show cls x (a.l.filter _) = cls x (b.l.filter _)
    rw [cls_filter, cls_filter, h.c, h.n]
  · show cls (revF x) (a.l.filter _) = cls (revF x) (b.l.filter _)
    rw [cls_filter, cls_filter, h.r, h.n]
theorem Sg.rn {x : Flw} {a b : Ans} (h : Sg x a b) (y : Flw) : Sg x (rnA a y) (rnA b y) := by
  refine ⟨h.m, h.f, h.n, ?_, ?_⟩
  · show cls x (rnL _ _ _) = cls x (rnL _ _ _)
    rw [cls_rn, cls_rn, h.c, h.n, h.f]
  · show cls (revF x) (rnL _ _ _) = cls (revF x) (rnL _ _ _)
    rw [cls_rn, cls_rn, h.r, h.n, h.f]
theorem sg_rn {x y : Flw} (a : Ans) (h1 : ¬ y = x) (h2 : ¬ y = revF x) : Sg x (rnA a y) a := by
  refine ⟨rfl, rfl, rfl, ?_, ?_⟩
  · show cls x (rnL _ _ _) = _
    rw [cls_rn, if_neg fun e => h1 e.symm]
  · show cls (revF x) (rnL _ _ _) = _
    rw [cls_rn, if_neg fun e => h2 e.symm]
theorem ad_room {a : Ans} (y : Flw) (h : (a.l.length : Int) < a.most) : adA a y = (0, { a with l := a.l ++ [⟨y, untF a.now a.life⟩] }) := if_neg (by omega)
theorem Sg.ad {x : Flw} {a b : Ans} (h : Sg x a b) (y : Flw) (ha : (a.l.length : Int) < a.most) (hb : (b.l.length : Int) < b.most) : (adA a y).1 = (adA b y).1 ∧ Sg x (adA a y).2 (adA b y).2 := by
  rw [ad_room y ha, ad_room y hb]
  refine ⟨rfl, h.m, h.f, h.n, ?_, ?_⟩
  · show cls x (_ ++ [_]) = cls x (_ ++ [_])
    rw [cls_add, cls_add, h.c, h.n, h.f]
  · show cls (revF x) (_ ++ [_]) = cls (revF x) (_ ++ [_])
    rw [cls_add, cls_add, h.r, h.n, h.f]
theorem sg_ad {x y : Flw} (a : Ans) (h1 : ¬ y = x) (h2 : ¬ y = revF x) : Sg x (adA a y).2 a := by
  unfold adA
  split
  · exact .refl _ _
  · refine ⟨rfl, rfl, rfl, ?_, ?_⟩
    · show cls x (_ ++ [_]) = _
      rw [cls_add, if_neg h1, List.append_nil]
    · show cls (revF x) (_ ++ [_]) = _
      rw [cls_add, if_neg h2, List.append_nil]
def pasA (a : Ans) (u : Int) : Ans := if u ≥ 4611686018427387904 then a else psA a u
theorem Sg.pas {x : Flw} {a b : Ans} (h : Sg x a b) (u : Int) : Sg x (pasA a u) (pasA b u) := by
  unfold pasA
  split
  · exact h
  · exact h.ps u
theorem sg_op {x y : Flw} (o : Int) (rl : List Rul) (a : Ans) (u : Int) (h1 : ¬ y = x) (h2 : ¬ y = revF x) : Sg x (opA o rl y a u).2 (pasA a u) := by
  have h3 : ¬ revF y = x := fun e => h2 (by rw [← e]; rfl)
  have h4 : ¬ revF y = revF x := fun e => h1 (by have := congrArg revF e; exact this)
  unfold opA pasA
  split
  · unfold outS
    split
    · exact .refl _ _
    · unfold outF
      split
      · exact sg_rn _ h3 h4
      · exact (sg_ad _ h3 h4).trans (sg_rn _ h3 h4)
  · unfold inS
    split
    · exact .refl _ _
    · unfold inF
      split
      · exact .refl _ _
      · exact sg_rn _ h1 h2
theorem Sg.has {x y : Flw} {a b : Ans} (h : Sg x a b) (hy : y = x ∨ y = revF x) : hasL y a.l = hasL y b.l := by
  rw [cls_has, cls_has]
  rcases hy with rfl | rfl
  · rw [h.c]
  · rw [h.r]
theorem Sg.op {x y : Flw} {a b : Ans} (h : Sg x a b) (hy : y = x ∨ y = revF x) (o : Int) (rl : List Rul) (u : Int) (ha : (a.l.length : Int) < a.most) (hb : (b.l.length : Int) < b.most) : (opA o rl y a u).1 = (opA o rl y b u).1 ∧ Sg x (opA o rl y a u).2 (opA o rl y b u).2 := by
  have hr : revF y = x ∨ revF y = revF x := by
    rcases hy with rfl | rfl
    · exact .inr rfl
    · exact .inl rfl
  have hp := h.ps u
  have la : (((rnA (psA a u) (revF y)).l.length : Int)) < (rnA (psA a u) (revF y)).most := by
    have h1 := ps_len a u
    have h2 : (rnA (psA a u) (revF y)).l.length = (psA a u).l.length := rn_len _ _ _
    show _ < a.most
    omega
  have lb : (((rnA (psA b u) (revF y)).l.length : Int)) < (rnA (psA b u) (revF y)).most := by
    have h1 := ps_len b u
    have h2 : (rnA (psA b u) (revF y)).l.length = (psA b u).l.length := rn_len _ _ _
    show _ < b.most
    omega
  unfold opA
  split
  · unfold outS
    split
    · exact ⟨rfl, h⟩
    · unfold outF
      rw [hp.has hr]
      split
      · exact ⟨rfl, hp.rn _⟩
      · exact (hp.rn _).ad _ la lb
  · unfold inS
    split
    · exact ⟨rfl, h⟩
    · unfold inF
      rw [hp.has hy]
      split
      · exact ⟨rfl, hp⟩
      · exact ⟨rfl, hp.rn _⟩
theorem op_most (o : Int) (rl : List Rul) (y : Flw) (a : Ans) (u : Int) : (opA o rl y a u).2.most = a.most := by
  have h0 : ∀ b : Ans, b.most = a.most → ∀ z, (adA b z).2.most = a.most := fun b hb z => by
    unfold adA
    split
    · exact hb
    · exact hb
  unfold opA outS inS outF inF
  repeat' split
  all_goals first | rfl | exact h0 (rnA (psA a u) (revF y)) rfl _
theorem runA_most (l : List Rul) (S : List Stp) (a : Ans) : ∀ n, (runA l S a n).most = a.most
  | 0 => rfl
  | n + 1 => by
    unfold runA
    split
    · exact runA_most l S a n
    · rw [op_most, runA_most l S a n]
theorem runB_most (x z : Flw) (l : List Rul) (S : List Stp) (a : Ans) : ∀ n, (runB x z l S a n).most = a.most
  | 0 => rfl
  | n + 1 => by
    unfold runB
    split
    · exact runB_most x z l S a n
    · split
      · rw [op_most, runB_most x z l S a n]
      · rw [op_most, runB_most x z l S a n]
theorem run_sg (x z : Flw) (hz1 : ¬ z = x) (hz2 : ¬ z = revF x) (l : List Rul) (S : List Stp) (lf : Int) : ∀ n, n ≤ 200 → Sg x (runA l S ⟨1024, lf, 0, []⟩ n) (runB x z l S ⟨1024, lf, 0, []⟩ n)
  | 0, _ => .refl _ _
  | n + 1, hn => by
    have ih := run_sg x z hz1 hz2 l S lf n (by omega)
    have l1 := runA_len l S ⟨1024, lf, 0, []⟩ n
    have l2 := runB_len x z l S ⟨1024, lf, 0, []⟩ n
    have m1 : _ = (1024 : Int) := runA_most l S ⟨1024, lf, 0, []⟩ n
    have m2 : _ = (1024 : Int) := runB_most x z l S ⟨1024, lf, 0, []⟩ n
    simp only [List.length_nil] at l1 l2
    unfold runA runB
    split
    · exact ih
    · split
      · rename_i h
        refine (ih.op ?_ _ _ _ (by omega) (by omega)).2
        simpa [mine] using h
      · rename_i h
        simp [mine] at h
        exact ((sg_op _ _ _ _ h.1 h.2).trans (ih.pas _)).trans (sg_op _ _ _ _ hz1 hz2).symm
end Go.Proofs.Ytlfekknonjlopaa
