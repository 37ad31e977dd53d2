/- Part 6 of the walks and facts. -/
import Derived.Test.YtbdgncndhnnjoaaGreatDoorRk5
import Derived.Deep.Slices
import Derived.HandedShaped
import Derived.Lay
import Derived.Lib.ItoaLen
import Derived.OpenShut
import Derived.ProofKit
import Derived.Shelf.Vars
import Derived.Sort.OwnSorted
import Derived.Test.YtbdgncndhnnjoaaGreatDoorTie
namespace Go.Proofs.YtbdgncndhnnjoaaGreatDoor
open Go.RowKit YtbdgncndhnnjoaaGreatDoor
set_option linter.unusedVariables false
set_option linter.unusedSimpArgs false
set_option maxHeartbeats 0
set_option maxRecDepth 100000
variable {C : World → Prop}
abbrev slc (b : Option Addr × Nat) (n : Nat) : Value := .slice b.1 n b.2
structure AcM (T : List Blk) where
 pb : Option Addr × Nat
 pn : Nat
 pf : Nat → Int
 ph : Sl T 1 pn (oneF pf) (slc pb pn)
 pm : pn < 1000000
 sb : Option Addr × Nat
 sn : Nat
 sf : Nat → Sel
 sh : Sl T 6 sn (slN sf) (slc sb sn)
 sk : ∀ i, i < sn → 0 ≤ (sf i).net.bits ∧ (sf i).net.bits ≤ 255
 db : Option Addr × Nat
 dn : Nat
 df : Nat → Sel
 dh : Sl T 6 dn (slN df) (slc db dn)
 dk : ∀ i, i < dn → 0 ≤ (df i).net.bits ∧ (df i).net.bits ≤ 255
 tb : Option Addr × Nat
 tn : Nat
 ta : Nat → Int
 te : Nat → Int
 th : Sl T 2 tn (ptN ta te) (slc tb tn)
abbrev AcM.vs {T : List Blk} (a : AcM T) : List SV := [vV (slc a.pb a.pn), vV (slc a.sb a.sn), vV (slc a.db a.dn), vV (slc a.tb a.tn)]
def acmB {T : List Blk} {v0 v1 v2 : Value} (p : Tl T v0 v1 v2) (a : AcM T) : Bool :=
 allN 0 a.pn (fun i => mpF (a.pf i)) && (risF a.pf a.pn && (allN 1 a.sn (fun i => maySelF (a.sf i) && tlF p (a.sf i)) && (allN 1 a.dn (fun i => maySelF (a.df i) && tlF p (a.df i)) && allN 0 a.tn fun i => decide (a.ta i ≤ a.te i))))
theorem c_mayAcl (T : List Blk) (y0 y1 y2 y3 : Option Addr × Nat) (n0 n1 n2 n3 : Nat) (p : Tl T (slc y0 n0) (slc y1 n1) (slc y2 n2)) (a : AcM T) : Ct S0 C 32 [vG [vV (slc y0 n0), vV (slc y1 n1), vV (slc y2 n2), vV (slc y3 n3)], vG a.vs] [tX T] [] [] [] (vV (.bool (acmB p a))) := by
 have k1 := fun C => c_allU (C := C) T a.pn a.pf _ 0 a.ph
 have k2 := fun C => c_rising (C := C) T a.pn a.pf _ a.ph a.pm
 have k3 := fun C => c_allL (C := C) T _ _ _ (slc y3 n3) p a.sn a.sf _ 1 a.sh a.sk
 have k4 := fun C => c_allL (C := C) T _ _ _ (slc y3 n3) p a.dn a.df _ 1 a.dh a.dk
 have k5 := fun C => c_allP (C := C) T a.tn a.ta a.te _ 0 a.th
 unfold acmB
 generalize allN 0 a.pn (fun i => mpF (a.pf i)) = r1 at k1
 generalize risF a.pf a.pn = r2 at k2
 generalize allN 1 a.sn (fun i => maySelF (a.sf i) && tlF p (a.sf i)) = r3 at k3
 generalize allN 1 a.dn (fun i => maySelF (a.df i) && tlF p (a.df i)) = r4 at k4
 generalize allN 0 a.tn (fun i => decide (a.ta i ≤ a.te i)) = r5 at k5
 cases r1
 ·rw [Bool.false_and]
  refine xIn Tryz.f32 fun E0 w0 hL hC hk => ?_
  refine xR 40 [(7, dC (k1 _) [0])] ?_
  exact (xRetC [])
 ·rw [Bool.true_and]
  cases r2
  ·rw [Bool.false_and]
   refine xIn Tryz.f32 fun E0 w0 hL hC hk => ?_
   refine xR 40 [(7, dC (k1 _) [0]), (11, dC (k2 _) [0])] ?_
   exact (xRetC [])
  ·rw [Bool.true_and]
   cases r3
   ·rw [Bool.false_and]
    refine xIn Tryz.f32 fun E0 w0 hL hC hk => ?_
    refine xR 40 [(7, dC (k1 _) [0]), (11, dC (k2 _) [0]), (17, dC (k3 _) [0, 1])] ?_
    exact (xRetC [])
   ·rw [Bool.true_and]
    cases r4
    ·rw [Bool.false_and]
     refine xIn Tryz.f32 fun E0 w0 hL hC hk => ?_
     refine xR 40 [(7, dC (k1 _) [0]), (11, dC (k2 _) [0]), (17, dC (k3 _) [0, 1]), (23, dC (k4 _) [0, 1])] ?_
     exact (xRetC [])
    ·rw [Bool.true_and]
     refine xIn Tryz.f32 fun E0 w0 hL hC hk => ?_
     refine xR 40 [(7, dC (k1 _) [0]), (11, dC (k2 _) [0]), (17, dC (k3 _) [0, 1]), (23, dC (k4 _) [0, 1]), (28, dC (k5 _) [0])] ?_
     exact (xRetC [])
theorem c_mayA1 (T : List Blk) (y0 y1 y2 y3 : Option Addr × Nat) (n0 n1 n2 n3 : Nat) (p : Tl T (slc y0 n0) (slc y1 n1) (slc y2 n2)) (a : AcM T) : Ct S0 C 31 [vG a.vs, vP 1 0] [tX T, tC [vV (slc y0 n0), vV (slc y1 n1), vV (slc y2 n2), vV (slc y3 n3)] 26] [] [] [] (vV (.bool (acmB p a))) := by
 have k1 := fun C => c_mayAcl (C := C) T y0 y1 y2 y3 n0 n1 n2 n3 p a
 refine xIn Tryz.f31 fun E0 w0 hL hC hk => ?_
 refine xR 12 [(4, dC (k1 _) [0])] ?_
 exact (xRetC [])
def acN {T : List Blk} (a : Nat → AcM T) (i : Nat) : Nat → Value
 | 0 => slc (a i).pb (a i).pn
 | 1 => slc (a i).sb (a i).sn
 | 2 => slc (a i).db (a i).dn
 | _ => slc (a i).tb (a i).tn
theorem c_allA (T : List Blk) (y0 y1 y2 y3 : Option Addr × Nat) (n0 n1 n2 n3 : Nat) (p : Tl T (slc y0 n0) (slc y1 n1) (slc y2 n2)) (n : Nat) (a : Nat → AcM T) (v : Value) (lo : Nat) (h : Sl T 4 n (acN a) v) : Ct S0 C 41 [vV v, vV (.int .i64 (lo : Int)), vF (.func 31) [] [vP 1 0]] [tX T, tC [vV (slc y0 n0), vV (slc y1 n1), vV (slc y2 n2), vV (slc y3 n3)] 26] [] [] [] (vV (.bool (allN lo n fun i => acmB p (a i)))) := by
 obtain ⟨base, cap, b0, o, rfl, H⟩ := h
 by_cases h1 : lo ≤ n
 ·by_cases h2 : n ≤ 64
  ·have h3 : ¬ (n : Int) < (lo : Int) := by omega
   have h4 : ¬ (n : Int) > 64 := by omega
   refine xIn Tryz.f41 fun E0 w0 hL hC hk => ?_
   refine xR 27 [(4, dF h3), (8, dF h4)] ?_
   refine xLp (fun (x : Nat) => [(20, vV (.int .i64 (x : Int)))]) (fun x => []) [21, 22, 23, 8, 24, 25, 26, 27, 6, 28] (fun x => x ≤ n ∧ ∀ i, i < x → acmB p (a i) = true) (fun x => n - x) 0 ⟨Nat.zero_le _, fun i hi => absurd hi (Nat.not_lt_zero _)⟩ fun x d hx g => ?_
   by_cases q1 : (x : Int) < (n : Int)
   ·have q1' : x < n := by omega
    cases q2 : acmB p (a x)
    ·have kp := fun C => (c_mayA1 (C := C) T y0 y1 y2 y3 n0 n1 n2 n3 p (a x)).rb q2
     have q3 : allN lo n (fun i => acmB p (a i)) = false := allN_no q1' q2
     refine xR 28 [(0, dT q1), (1, dIxR 24 H cap x q1'), (2, dLdR 57 0 H x q1'), (7, dC (kp _) [0, 1])] ?_
     exact xB (b' := false) q3.symm (xRetC [])
    ·have kp := fun C => (c_mayA1 (C := C) T y0 y1 y2 y3 n0 n1 n2 n3 p (a x)).rb q2
     refine xR 30 [(0, dT q1), (1, dIxR 24 H cap x q1'), (2, dLdR 57 0 H x q1'), (7, dC (kp _) [0, 1]), (9, dW ((↑x : Int) + 1) ((↑(x + 1) : Int)) (by omega) (by omega) (by omega))] ?_
     exact xNx g (x + 1) [21, 22, 23, 8, 24, 25, 26, 27, 6, 28] [0, 1] (by exact ⟨by omega, fun i hi => by rcases Nat.lt_succ_iff_lt_or_eq.1 hi with h | h; exact hx.2 i h; rw [h]; assumption⟩) (by omega)
   ·have q3 : allN lo n (fun i => acmB p (a i)) = true := allN_yes h1 h2 fun i hi => hx.2 i (by omega)
    refine xR 11 [(0, dF q1)] ?_
    exact xB (b' := true) q3.symm (xRetC [])
  ·rw [allN_hi h2]
   have h3 : ¬ (n : Int) < (lo : Int) := by omega
   have h4 : (n : Int) > 64 := by omega
   refine xIn Tryz.f41 fun E0 w0 hL hC hk => ?_
   refine xR 22 [(4, dF h3), (8, dT h4)] ?_
   exact (xRetC [])
 ·rw [allN_lo h1]
  have h3 : (n : Int) < (lo : Int) := by omega
  refine xIn Tryz.f41 fun E0 w0 hL hC hk => ?_
  refine xR 22 [(4, dT h3)] ?_
  exact (xRetC [])
end Go.Proofs.YtbdgncndhnnjoaaGreatDoor

namespace Go.Proofs.YtbdgncndhnnjoaaGreatDoor
open Go.RowKit YtbdgncndhnnjoaaGreatDoor
set_option linter.unusedVariables false
set_option linter.unusedSimpArgs false
set_option maxHeartbeats 0
set_option maxRecDepth 100000
variable {C : World → Prop}
theorem itoa_le (a : Int) (h0 : 0 ≤ a) (h1 : a < 65536) : (itoaF a).size ≤ 21 := by
 unfold itoaF
 rw [ba_size]
 exact Lib.itoa_length_le a (by omega) (by omega)
theorem c_rangeText1 (a : Int) (h0 : 0 ≤ a) (h1 : a < 65536) : Ct S0 C 87 [vG [vV (.int .u16 a), vV (.int .u16 a)]] [] [] [] [] (vV (.string (itoaF a))) := by
 have k1 := fun C => c_portText (C := C) a h0 h1
 have q1 : (a == a) = true := by simp
 refine xIn Tryz.f87 fun E0 w0 hL hC hk => ?_
 refine xR 22 [(6, dB ((iEq a a).trans (DT (p := a = a) (by omega)))), (9, dC (k1 _) [])] ?_
 exact (xRetC [])
theorem c_rangeText2 (a e : Int) (h0 : 0 ≤ a) (h1 : a < 65536) (h2 : 0 ≤ e) (h3 : e < 65536) (h : ¬ a = e) : Ct S0 C 87 [vG [vV (.int .u16 a), vV (.int .u16 e)]] [] [] [] [] (vV (.string ((itoaF a ++ ⟨#[45]⟩) ++ itoaF e))) := by
 have k1 := fun C => c_portText (C := C) a h0 h1
 have k2 := fun C => c_portText (C := C) e h2 h3
 have q1 : (a == e) = false := by simpa using h
 have z1 := itoa_le a h0 h1
 have z2 := itoa_le e h2 h3
 have z3 : (⟨#[45]⟩ : ByteArray).size = 1 := rfl
 have q2 : (itoaF a).size + (⟨#[45]⟩ : ByteArray).size ≤ 1000000000 := by omega
 have q3 : (itoaF a ++ ⟨#[45]⟩).size + (itoaF e).size ≤ 1000000000 := by rw [ByteArray.size_append]; omega
 refine xIn Tryz.f87 fun E0 w0 hL hC hk => ?_
 refine xR 18 [(6, dB ((iEq a e).trans (DF h))), (9, dC (k1 _) []), (10, dCat 9 (itoaF a) ⟨#[45]⟩ q2), (13, dC (k2 _) []), (14, dCat 9 (itoaF a ++ ⟨#[45]⟩) (itoaF e) q3)] ?_
 refine xR 0 [] ?_
 exact (xRetC [])
theorem c_ixU (T : List Blk) (n : Nat) (f : Nat → Int) (v : Value) (y : Int) (h : Sl T 1 n (oneF f) v) (hn : n < 1000000) : Ct S0 C 159 [vV v, vV (.int .u8 y)] [tX T] [] [] [] (vV (.int .i64 (fstI (fun i => decide (y = f i)) n))) := by
 obtain ⟨base, cap, b0, o, rfl, H⟩ := h
 refine xIn Tryz.f159 fun E0 w0 hL hC hk => ?_
 refine xR 12 [] ?_
 refine xLp (fun (x : Nat) => [(8, vV (.int .i64 (x : Int)))]) (fun x => []) [9, 10, 5, 11, 12, 13, 14, 15, 16, 17, 4, 18] (fun x => x ≤ n ∧ ∀ i, i < x → decide (y = f i) = false) (fun x => n - x) 0 (by simp) fun x d hx g => ?_
 by_cases q1 : (x : Int) < (n : Int)
 ·have q1' : x < n := by omega
  by_cases q2 : y = f x
  ·refine xR 29 [(0, dT q1), (6, dIxR 41 H cap x q1'), (7, dLdR1 5 0 H x 0 (o + x * 1) q1'), (8, dB ((iEq y (f x)).trans (DT q2)))] ?_
   exact xI (b' := ((↑x : Int))) (by exact (fstI_hit (by omega) hx.2 (by simp [*])).symm) (xRetC [])
  ·refine xR 30 [(0, dT q1), (6, dIxR 41 H cap x q1'), (7, dLdR1 5 0 H x 0 (o + x * 1) q1'), (8, dB ((iEq y (f x)).trans (DF q2))), (9, dW ((↑x : Int) + 1) ((↑(x + 1) : Int)) (by omega) (by omega) (by omega))] ?_
   exact xNx g (x + 1) [9, 10, 5, 11, 12, 13, 14, 15, 16, 17, 4, 18] [0] ⟨by omega, fun i hi => by rcases Nat.lt_succ_iff_lt_or_eq.1 hi with h | h; exact hx.2 i h; rw [h]; exact DF q2⟩ (by omega)
 ·refine xR 11 [(0, dF q1)] ?_
  exact xI (b' := (Int.negSucc 0)) (by exact (fstI_none (by omega) hx.2).symm) (xRetC [])
theorem c_hasU (T : List Blk) (n : Nat) (f : Nat → Int) (v : Value) (y : Int) (h : Sl T 1 n (oneF f) v) (hn : n < 1000000) : Ct S0 C 118 [vV v, vV (.int .u8 y)] [tX T] [] [] [] (vV (.bool ((List.range n).any fun i => decide (y = f i)))) := by
 have k1 := fun C => c_ixU (C := C) T n f v y h hn
 refine xIn Tryz.f118 fun E0 w0 hL hC hk => ?_
 refine xR 12 [(3, dC (k1 _) [0])] ?_
 exact xB (b' := (decide (fstI (fun i => decide (y = f i)) n ≥ 0))) (by exact fstI_any) (xRetC [])
end Go.Proofs.YtbdgncndhnnjoaaGreatDoor

namespace Go.Proofs.YtbdgncndhnnjoaaGreatDoor
open Go.RowKit YtbdgncndhnnjoaaGreatDoor
set_option linter.unusedVariables false
set_option linter.unusedSimpArgs false
set_option maxHeartbeats 0
set_option maxRecDepth 100000
variable {C : World → Prop}
theorem c_prefixText (x : Net) (hb0 : 0 ≤ x.bits) (hb1 : x.bits ≤ 255) : Ct S0 C 46 [vG [vV (.bool x.v6), vV (.int .u64 x.hi), vV (.int .u64 x.lo), vV (.int .u8 x.bits)]] [] [] [] [] (vV (.string (Ip.ptx x.v6 x.hi x.lo x.bits))) :=
 ct_flatX (args := [.agg #[.bool x.v6, .int .u64 x.hi, .int .u64 x.lo, .int .u8 x.bits]]) (fun w hL _ => Ip.c_PrefixText x.v6 x.hi x.lo x.bits hb0 hb1 w hL.ip) (fun _ => rfl) (fun _ => rfl)
theorem c_selT (k : Int) (nm : ByteArray) (v6 : Bool) (hi lo b : Int) (lit : ByteArray) (hk : (k = 2 ∧ lit = ⟨#[117, 115, 101, 114]⟩) ∨ (k = 3 ∧ lit = ⟨#[103, 114, 111, 117, 112]⟩) ∨ (k = 4 ∧ lit = ⟨#[116, 97, 103]⟩) ∨ (k = 5 ∧ lit = ⟨#[104, 111, 115, 116]⟩)) (hs : nm.size ≤ 100000) : Ct S0 C 85 [vG [vV (.int .u8 k), vV (.string nm), vV (.bool v6), vV (.int .u64 hi), vV (.int .u64 lo), vV (.int .u8 b)]] [] [] [] [] (vV (.string ((lit ++ ⟨#[58]⟩) ++ nm))) := by
 have z0 : (⟨#[58]⟩ : ByteArray).size = 1 := rfl
 have z1 : lit.size ≤ 5 := by rcases hk with ⟨-, rfl⟩ | ⟨-, rfl⟩ | ⟨-, rfl⟩ | ⟨-, rfl⟩ <;> decide
 have q2 : lit.size + (⟨#[58]⟩ : ByteArray).size ≤ 1000000000 := by omega
 have q3 : (lit ++ ⟨#[58]⟩).size + nm.size ≤ 1000000000 := by rw [ByteArray.size_append]; omega
 rcases hk with ⟨rfl, rfl⟩ | ⟨rfl, rfl⟩ | ⟨rfl, rfl⟩ | ⟨rfl, rfl⟩
 ·refine xIn Tryz.f85 fun E0 w0 hL hC hk => ?_
  refine xR 12 [(2, dGl1)] ?_
  refine xUn 6 ?_
  refine xR 44 [(19, dCat 9 ({ data := #[117, 115, 101, 114] } ++ { data := #[58] }) nm q3)] ?_
  exact (xRetC [])
 ·refine xIn Tryz.f85 fun E0 w0 hL hC hk => ?_
  refine xR 12 [(2, dGl1)] ?_
  refine xUn 6 ?_
  refine xR 33 [] ?_
  refine xUm 5 ?_
  refine xR 44 [(19, dCat 9 ({ data := #[103, 114, 111, 117, 112] } ++ { data := #[58] }) nm q3)] ?_
  exact (xRetC [])
 ·refine xIn Tryz.f85 fun E0 w0 hL hC hk => ?_
  refine xR 12 [(2, dGl1)] ?_
  refine xUn 6 ?_
  refine xR 33 [] ?_
  refine xUm 5 ?_
  refine xR 33 [] ?_
  refine xUm 4 ?_
  refine xR 44 [(19, dCat 9 ({ data := #[116, 97, 103] } ++ { data := #[58] }) nm q3)] ?_
  exact (xRetC [])
 ·refine xIn Tryz.f85 fun E0 w0 hL hC hk => ?_
  refine xR 12 [(2, dGl1)] ?_
  refine xUn 6 ?_
  refine xR 33 [] ?_
  refine xUm 5 ?_
  refine xR 33 [] ?_
  refine xUm 4 ?_
  refine xR 33 [] ?_
  refine xUm 3 ?_
  refine xR 44 [(19, dCat 9 ({ data := #[104, 111, 115, 116] } ++ { data := #[58] }) nm q3)] ?_
  exact (xRetC [])
theorem c_selTn (x : Net) (nm : ByteArray) (hb0 : 0 ≤ x.bits) (hb1 : x.bits ≤ 255) (hs : (Ip.ptx x.v6 x.hi x.lo x.bits).size ≤ 100000) : Ct S0 C 85 [vG [vV (.int .u8 6), vV (.string nm), vV (.bool x.v6), vV (.int .u64 x.hi), vV (.int .u64 x.lo), vV (.int .u8 x.bits)]] [] [] [] [] (vV (.string ((⟨#[110, 101, 116]⟩ ++ ⟨#[58]⟩) ++ Ip.ptx x.v6 x.hi x.lo x.bits))) := by
 have z1 : ((⟨#[110, 101, 116]⟩ : ByteArray) ++ ⟨#[58]⟩).size = 4 := rfl
 have q3 : ((⟨#[110, 101, 116]⟩ : ByteArray) ++ ⟨#[58]⟩).size + (Ip.ptx x.v6 x.hi x.lo x.bits).size ≤ 1000000000 := by omega
 have k1 := fun C => c_prefixText (C := C) x hb0 hb1
 refine xIn Tryz.f85 fun E0 w0 hL hC hk => ?_
 refine xR 12 [(2, dGl1)] ?_
 refine xUn 6 ?_
 refine xR 33 [] ?_
 refine xUm 5 ?_
 refine xR 33 [] ?_
 refine xUm 4 ?_
 refine xR 33 [] ?_
 refine xUm 3 ?_
 refine xR 33 [] ?_
 refine xUm 2 ?_
 refine xR 36 [(19, dC (k1 _) []), (20, dCat 9 ({ data := #[110, 101, 116] } ++ { data := #[58] }) (Ip.ptx x.v6 x.hi x.lo x.bits) q3)] ?_
 exact (xRetC [])
theorem c_selTa (nm : ByteArray) (v6 : Bool) (hi lo b : Int) : Ct S0 C 85 [vG [vV (.int .u8 1), vV (.string nm), vV (.bool v6), vV (.int .u64 hi), vV (.int .u64 lo), vV (.int .u8 b)]] [] [] [] [] (vV (.string ⟨#[42]⟩)) := by
 refine xIn Tryz.f85 fun E0 w0 hL hC hk => ?_
 refine xR 12 [(2, dGl1)] ?_
 refine xUn 6 ?_
 refine xR 33 [] ?_
 refine xUm 5 ?_
 refine xR 33 [] ?_
 refine xUm 4 ?_
 refine xR 33 [] ?_
 refine xUm 3 ?_
 refine xR 33 [] ?_
 refine xUm 2 ?_
 refine xR 33 [] ?_
 refine xUm 1 ?_
 refine xR 11 [] ?_
 exact (xRetC [])
end Go.Proofs.YtbdgncndhnnjoaaGreatDoor

namespace Go.Proofs.YtbdgncndhnnjoaaGreatDoor
open Go.RowKit YtbdgncndhnnjoaaGreatDoor
set_option linter.unusedVariables false
set_option linter.unusedSimpArgs false
set_option maxHeartbeats 0
set_option maxRecDepth 100000
variable {C : World → Prop}
def rgT (a e : Int) : ByteArray := if a = e then itoaF a else (itoaF a ++ ⟨#[45]⟩) ++ itoaF e
theorem c_rangeText (a e : Int) (h0 : 0 ≤ a) (h1 : a < 65536) (h2 : 0 ≤ e) (h3 : e < 65536) : Ct S0 C 87 [vG [vV (.int .u16 a), vV (.int .u16 e)]] [] [] [] [] (vV (.string (rgT a e))) := by
 unfold rgT
 by_cases h : a = e
 ·rw [if_pos h, ← h]
  exact c_rangeText1 a h0 h1
 ·rw [if_neg h]
  exact c_rangeText2 a e h0 h1 h2 h3 h
def txL (f : Nat → ByteArray) : Nat → List ByteArray
 | 0 => []
 | j + 1 => txL f j ++ [f j]
theorem txL_len (f : Nat → ByteArray) : ∀ j, (txL f j).length = j
 | 0 => rfl
 | j + 1 => by rw [txL, List.length_append, txL_len f j]; rfl
theorem c_textsP (T : List Blk) (n : Nat) (a e : Nat → Int) (v : Value) (h : Sl T 2 n (ptN a e) v) (hn : n < 400000) (hb : ∀ i, i < n → (0 ≤ a i ∧ a i < 65536) ∧ (0 ≤ e i ∧ e i < 65536)) : Ct S0 C 86 [vV v, vF (.func 87) [] []] [tX T] [] [] [tD (RowD 1 9 strEl (txL (fun i => rgT (a i) (e i)) n))] (vW 1) := by
 obtain ⟨base, cap, b0, o, rfl, H⟩ := h
 obtain ⟨rg, hrg⟩ : ∃ f : Nat → ByteArray, f = fun i => rgT (a i) (e i) := ⟨_, rfl⟩
 rw [← hrg]
 refine xIn Tryz.f86 fun E0 w0 hL hC hk => ?_
 refine xR 16 [] ?_
 refine xPk (vV (.slice none 0 0)) [] (RowD 1 9 strEl (txL rg 0)) [5] [] (fun _ _ => ⟨rfl, row_nil _ _ _⟩) ?_
 refine xLp (fun (x : Nat) => [(10, vV (.int .i64 (x : Int))), (5, vW 1)]) (fun x => [(1, tD (RowD 1 9 strEl (txL rg x)))]) [11, 12, 13, 7, 14, 15, 16, 17, 18, 19, 20] (fun x => x ≤ n) (fun x => n - x) 0 (Nat.zero_le _) fun x d hx g => ?_
 by_cases q1 : (x : Int) < (n : Int)
 ·have q1' : x < n := by omega
  have hl : (txL rg x).length < 500000 := by rw [txL_len]; omega
  have kp : ∀ C, Ct S0 C 87 [vG [vV (.int .u16 (a x)), vV (.int .u16 (e x))]] [] [] [] [] (vV (.string (rg x))) := by rw [hrg]; exact fun C => c_rangeText (C := C) (a x) (e x) (hb x q1').1.1 (hb x q1').1.2 (hb x q1').2.1 (hb x q1').2.2
  refine xR 30 [(0, dT q1), (1, dIxR 55 H cap x q1'), (2, dLdR 103 0 H x q1'), (8, dC (kp _) []), (10, dApp_strEl (txL rg x) 1 3 (rg x) hl), (12, dW ((↑x : Int) + 1) ((↑(x + 1) : Int)) (by omega) (by omega) (by omega))] ?_
  exact xNx g (x + 1) [11, 12, 13, 7, 14, 15, 16, 17, 18, 19, 20] [0, 4] (by omega) (by omega)
 ·obtain rfl : x = n := by omega
  refine xR 12 [(0, dF q1)] ?_
  exact (xRetC [1])
def seT (s : Sel) : ByteArray := if s.kind = 2 then (⟨#[117, 115, 101, 114]⟩ ++ ⟨#[58]⟩) ++ s.name else if s.kind = 3 then (⟨#[103, 114, 111, 117, 112]⟩ ++ ⟨#[58]⟩) ++ s.name else if s.kind = 4 then (⟨#[116, 97, 103]⟩ ++ ⟨#[58]⟩) ++ s.name else if s.kind = 5 then (⟨#[104, 111, 115, 116]⟩ ++ ⟨#[58]⟩) ++ s.name else if s.kind = 6 then (⟨#[110, 101, 116]⟩ ++ ⟨#[58]⟩) ++ Ip.ptx s.net.v6 s.net.hi s.net.lo s.net.bits else ⟨#[42]⟩
theorem c_selText (s : Sel) (hk : s.kind = 1 ∨ s.kind = 2 ∨ s.kind = 3 ∨ s.kind = 4 ∨ s.kind = 5 ∨ s.kind = 6) (hb0 : 0 ≤ s.net.bits) (hb1 : s.net.bits ≤ 255) (hs : s.name.size ≤ 100000) (hp : (Ip.ptx s.net.v6 s.net.hi s.net.lo s.net.bits).size ≤ 100000) : Ct S0 C 85 [vG (selS s)] [] [] [] [] (vV (.string (seT s))) := by
 obtain ⟨k, nm, v6, hi, lo, b⟩ := s
 rcases hk with h | h | h | h | h | h
 ·obtain rfl : k = 1 := h
  exact c_selTa nm _ _ _ _
 ·obtain rfl : k = 2 := h
  exact c_selT 2 nm _ _ _ _ _ (.inl ⟨rfl, rfl⟩) hs
 ·obtain rfl : k = 3 := h
  exact c_selT 3 nm _ _ _ _ _ (.inr (.inl ⟨rfl, rfl⟩)) hs
 ·obtain rfl : k = 4 := h
  exact c_selT 4 nm _ _ _ _ _ (.inr (.inr (.inl ⟨rfl, rfl⟩))) hs
 ·obtain rfl : k = 5 := h
  exact c_selT 5 nm _ _ _ _ _ (.inr (.inr (.inr ⟨rfl, rfl⟩))) hs
 ·obtain rfl : k = 6 := h
  exact c_selTn ⟨v6, hi, lo, b⟩ nm hb0 hb1 hp
theorem c_textsS (T : List Blk) (n : Nat) (s : Nat → Sel) (v : Value) (h : Sl T 6 n (slN s) v) (hn : n < 400000) (hb : ∀ i, i < n → ((s i).kind = 1 ∨ (s i).kind = 2 ∨ (s i).kind = 3 ∨ (s i).kind = 4 ∨ (s i).kind = 5 ∨ (s i).kind = 6) ∧ (0 ≤ (s i).net.bits ∧ (s i).net.bits ≤ 255) ∧ (s i).name.size ≤ 100000 ∧ (Ip.ptx (s i).net.v6 (s i).net.hi (s i).net.lo (s i).net.bits).size ≤ 100000) : Ct S0 C 84 [vV v, vF (.func 85) [] []] [tX T] [] [] [tD (RowD 1 9 strEl (txL (fun i => seT (s i)) n))] (vW 1) := by
 obtain ⟨base, cap, b0, o, rfl, H⟩ := h
 obtain ⟨rg, hrg⟩ : ∃ f : Nat → ByteArray, f = fun i => seT (s i) := ⟨_, rfl⟩
 rw [← hrg]
 refine xIn Tryz.f84 fun E0 w0 hL hC hk => ?_
 refine xR 16 [] ?_
 refine xPk (vV (.slice none 0 0)) [] (RowD 1 9 strEl (txL rg 0)) [5] [] (fun _ _ => ⟨rfl, row_nil _ _ _⟩) ?_
 refine xLp (fun (x : Nat) => [(10, vV (.int .i64 (x : Int))), (5, vW 1)]) (fun x => [(1, tD (RowD 1 9 strEl (txL rg x)))]) [11, 12, 13, 7, 14, 15, 16, 17, 18, 19, 20] (fun x => x ≤ n) (fun x => n - x) 0 (Nat.zero_le _) fun x d hx g => ?_
 by_cases q1 : (x : Int) < (n : Int)
 ·have q1' : x < n := by omega
  have hl : (txL rg x).length < 500000 := by rw [txL_len]; omega
  have kp : ∀ C, Ct S0 C 85 [vG (selS (s x))] [] [] [] [] (vV (.string (rg x))) := by rw [hrg]; exact fun C => c_selText (C := C) (s x) (hb x q1').1 (hb x q1').2.1.1 (hb x q1').2.1.2 (hb x q1').2.2.1 (hb x q1').2.2.2
  refine xR 30 [(0, dT q1), (1, dIxR 54 H cap x q1'), (2, dLdR 59 0 H x q1'), (8, dC (kp _) []), (10, dApp_strEl (txL rg x) 1 3 (rg x) hl), (12, dW ((↑x : Int) + 1) ((↑(x + 1) : Int)) (by omega) (by omega) (by omega))] ?_
  exact xNx g (x + 1) [11, 12, 13, 7, 14, 15, 16, 17, 18, 19, 20] [0, 4] (by omega) (by omega)
 ·obtain rfl : x = n := by omega
  refine xR 12 [(0, dF q1)] ?_
  exact (xRetC [1])
end Go.Proofs.YtbdgncndhnnjoaaGreatDoor

namespace Go.Proofs.YtbdgncndhnnjoaaGreatDoor
open Go.RowKit YtbdgncndhnnjoaaGreatDoor
set_option linter.unusedVariables false
set_option linter.unusedSimpArgs false
set_option maxHeartbeats 0
set_option maxRecDepth 100000
variable {C : World → Prop}
theorem ct_flatT {P : Program} {S : Seat P} {f : FuncId} {xs : List SV} {args : List Value} {v : SV} {r : Value} {T0 : List Blk} (h : ∀ w, S.laid w → (∀ b ∈ T0, w.heap[b.g]? = some b.Z) → Calls P f args.toArray w fun e w' => e = .returned r ∧ Below w.heap.size w w') (hx : ∀ E, xs.map (SV.den E) = args) (hv : ∀ E, v.den E = r)
  (he : (fun (args : Array Value) (w : World) => (callFunc f args).run P w) = fun args w => .ok (.enter f args) w := by kernel_rfl) : Ct S C f xs [tX T0] [] [] [] v := by
 have he : ∀ (args : Array Value) (w : World), (callFunc f args).run P w = .ok (.enter f args) w := fun args w => congrFun (congrFun he args) w
 refine ⟨fun E w hL hC T hok => ?_⟩
 show Fin P ((callFunc f (xs.map (SV.den E)).toArray).run P w) _
 rw [hx, he]
 have hd : denP E (ix 0 ([tX T0] ++ [])) = T0 := by
  show T0 ++ [] = T0
  rw [List.append_nil]
 rw [hd] at T
 refine (h w hL T.at_).mono ?_
 rintro e w' ⟨rfl, hb⟩
 refine ⟨_, rfl, E, fun _ _ => rfl, fun p hp => ?_, (hv E).symm, ?_⟩
 ·simp [postC, ix] at hp
  subst hp
  trivial
 ·have e2 : denP E (postC [tX T0] [] [] []) = T0 := by
   show T0 ++ [] = T0
   rw [List.append_nil]
  rw [hd, e2]
  simpa using OkT.below T hb
theorem els_str : ∀ {l : List ByteArray} {cs : List Value} {T : List Blk}, Els strEl 1 l cs T → cs = l.map Value.string ∧ T = []
 | [], _, _, h => h
 | x :: l, _, _, ⟨c1, c2, T1, T2, e1, h1, e2, ⟨e3, e4⟩, h⟩ => by
  obtain ⟨e5, e6⟩ := els_str h
  exact ⟨by rw [e1, e3, e5]; rfl, by rw [e2, e4, e6]; rfl⟩
theorem row_slc {l : List ByteArray} {v : Value} {T : List Blk} (h : RowD 1 9 strEl l v T) : ∃ (base : Option Addr) (cap b0 o : Nat), v = .slice base l.length cap ∧ (0 < l.length → l.length ≤ cap) ∧ SlO T 1 l.length (fun i _ => .string (Ip.tg l i)) base b0 o := by
 obtain ⟨cs, Tb, Te, hB, hE, rfl⟩ := h
 obtain ⟨rfl, rfl⟩ := els_str hE
 rcases hB.2 with ⟨h0, ⟨a, rfl⟩, rfl⟩ | ⟨g, cap, Z, rfl, hc, hZ, hZt, rfl⟩
 ·exact ⟨a, 0, 0, 0, by rw [h0], fun h => by omega, fun h => by omega⟩
 ·refine ⟨some ⟨g, 0, none⟩, cap, g, 0, rfl, fun _ => hc, fun _ => ⟨rfl, Z.toArray, 9, (0, 0), by simp, fun i j hi hj => ?_⟩⟩
  have hj : j = 0 := by omega
  subst hj
  have h1 : (Z.take (l.length * 1))[i]? = Z[i]? := by rw [List.getElem?_take, if_pos (by omega)]
  rw [Nat.zero_add, Nat.mul_one, Nat.add_zero, List.getElem?_toArray, ← h1, hZt, List.getElem?_map, Ip.tg_at l i hi]
  rfl
theorem c_joinT (T : List Blk) (l : List ByteArray) (sep : ByteArray) (base : Option Addr) (cap b0 o : Nat) (hc : l.length ≤ cap) (H : SlO T 1 l.length (fun i _ => .string (Ip.tg l i)) base b0 o) (h0 : 0 < l.length) (hN : l.length ≤ 1000000) (hlen : (Lib.join (l.map (·.data.toList)) sep.data.toList).length ≤ 10000000) : Ct S0 C 44 [vV (.slice base l.length cap), vV (.string sep)] [tX T] [] [] [] (vV (.string (Ip.jn l sep))) := by
 obtain ⟨rfl, Z, e, fr, hm, hz⟩ := H h0
 refine ct_flatT (args := [.slice (some ⟨b0, o, none⟩) l.length cap, .string sep]) (fun w hL hT => ?_) (fun _ => rfl) (fun _ => rfl)
 have hg := hT _ hm
 exact Any.strings_Join Ip.lays156 Ip.repExtra b0 o cap l sep w (fun j x hx => by
  have hj : j < l.length := (List.getElem?_eq_some_iff.1 hx).1
  rw [cell_atR hg]
  have := hz j 0 hj (by omega)
  rw [Nat.mul_one, Nat.add_zero] at this
  rw [this]
  have e2 := Ip.tg_at l j hj
  rw [hx] at e2
  exact congrArg (fun y => some (Value.string y)) (Option.some.inj e2).symm) (Array.getElem?_eq_some_iff.1 hg).1 (by omega) hc (by omega)
theorem c_join0 (a : Option Addr) (cap : Nat) (sep : ByteArray) : Ct S0 C 44 [vV (.slice a 0 cap), vV (.string sep)] [] [] [] [] (vV (.string ⟨#[]⟩)) := by
 refine xIn Tryz.f44 fun E0 w0 hL hC hk => ?_
 refine xR 21 [] ?_
 exact (xRetC [])
theorem c_joinD (l : List ByteArray) (sep : ByteArray) (h0 : 0 < l.length) (hN : l.length ≤ 1000000) (hlen : (Lib.join (l.map (·.data.toList)) sep.data.toList).length ≤ 10000000) : Ct S0 C 44 [vW 0, vV (.string sep)] [tD (RowD 1 9 strEl l)] [] [] [] (vV (.string (Ip.jn l sep))) := by
 refine ct_join 1 (fun _ => RowD 1 9 strEl l) _ (fun v => [vV (v 0), vV (.string sep)]) (fun _ => rfl) rfl fun v B hv => ?_
 obtain ⟨base, cap, b0, o, e, hc, H⟩ := row_slc (hv 0 (by decide))
 rw [e]
 exact c_joinT _ l sep base cap b0 o (hc h0) (H.sub fun b hb => List.mem_flatMap.2 ⟨0, List.mem_range.2 (by decide), hb⟩) h0 hN hlen
end Go.Proofs.YtbdgncndhnnjoaaGreatDoor

namespace Go.Proofs.YtbdgncndhnnjoaaGreatDoor
open Go.RowKit YtbdgncndhnnjoaaGreatDoor
set_option linter.unusedVariables false
set_option linter.unusedSimpArgs false
set_option maxHeartbeats 0
set_option maxRecDepth 100000
variable {C : World → Prop}
abbrev pI : ByteArray := ⟨#[105, 99, 109, 112]⟩
abbrev pT : ByteArray := ⟨#[116, 99, 112]⟩
abbrev pU : ByteArray := ⟨#[117, 100, 112]⟩
def prN (a b c : Bool) : List ByteArray := (if a then [pI] else []) ++ ((if b then [pT] else []) ++ (if c then [pU] else []))
abbrev hasP (n : Nat) (f : Nat → Int) (y : Int) : Bool := (List.range n).any fun i => decide (y = f i)
def prT (n : Nat) (f : Nat → Int) : ByteArray := if n = 0 then ⟨#[97, 110, 121]⟩ else Ip.jn (prN (hasP n f 1) (hasP n f 6) (hasP n f 17)) ⟨#[44]⟩
theorem c_protosText (T : List Blk) (n : Nat) (f : Nat → Int) (v : Value) (h : Sl T 1 n (oneF f) v) (hn : n < 1000000) : Ct S0 C 83 [vV v] [tX T] [] [] [] (vV (.string (prT n f))) := by
 have k1 := fun C => c_hasU (C := C) T n f v 1 h hn
 have k6 := fun C => c_hasU (C := C) T n f v 6 h hn
 have k7 := fun C => c_hasU (C := C) T n f v 17 h hn
 obtain ⟨base, cap, b0, o, rfl, H⟩ := h
 unfold prT
 by_cases q0 : n = 0
 ·subst q0
  rw [if_pos rfl]
  refine xIn Tryz.f83 fun E0 w0 hL hC hk => ?_
  refine xR 16 [] ?_
  exact (xRetC [])
 ·rw [if_neg q0]
  have q1 : ((n : Int) == 0) = false := by
   rw [beq_eq_false_iff_ne]
   omega
  unfold hasP
  generalize ((List.range n).any fun i => decide ((1 : Int) = f i)) = r1 at k1
  generalize ((List.range n).any fun i => decide ((6 : Int) = f i)) = r2 at k6
  generalize ((List.range n).any fun i => decide ((17 : Int) = f i)) = r3 at k7
  cases r1
  ·cases r2
   ·cases r3
    ·have kj := fun C => c_join0 (C := C) none 0 ⟨#[44]⟩
     refine xIn Tryz.f83 fun E0 w0 hL hC hk => ?_
     refine xR 24 [(3, dB ((iEq ((↑n : Int)) 0).trans (DF (p := (↑n : Int) = 0) (by omega)))), (5, dGl0)] ?_
     refine xR 0 [] ?_
     refine xUn 4 ?_
     refine xR 29 [(7, dC (k1 _) [0])] ?_
     refine xUm 3 ?_
     refine xR 29 [(7, dC (k6 _) [0])] ?_
     refine xUm 2 ?_
     refine xR 29 [(7, dC (k7 _) [0])] ?_
     refine xUm 1 ?_
     refine xR 13 [(2, dC (kj _) [])] ?_
     exact (xRetC [])
    ·have kj := fun C => c_joinD (C := C) (([] : List ByteArray) ++ [pU]) ⟨#[44]⟩ (by decide) (by decide) (by decide)
     have ql0 : ([] : List ByteArray).length < 500000 := by decide
     refine xIn Tryz.f83 fun E0 w0 hL hC hk => ?_
     refine xR 24 [(3, dB ((iEq ((↑n : Int)) 0).trans (DF (p := (↑n : Int) = 0) (by omega)))), (5, dGl0)] ?_
     refine xPk (vV (.slice none 0 0)) [] (RowD 1 9 strEl []) [3] [] (fun _ _ => ⟨rfl, row_nil _ _ _⟩) ?_
     refine xR 0 [] ?_
     refine xUn 4 ?_
     refine xR 29 [(7, dC (k1 _) [0])] ?_
     refine xUm 3 ?_
     refine xR 29 [(7, dC (k6 _) [0])] ?_
     refine xUm 2 ?_
     refine xR 36 [(7, dC (k7 _) [0]), (12, dApp_strEl [] 1 5 ({ data := #[117, 100, 112] }) ql0)] ?_
     refine xUm 1 ?_
     refine xR 13 [(2, dC (kj _) [6])] ?_
     exact (xRetC [])
   ·cases r3
    ·have kj := fun C => c_joinD (C := C) (([] : List ByteArray) ++ [pT]) ⟨#[44]⟩ (by decide) (by decide) (by decide)
     have ql0 : ([] : List ByteArray).length < 500000 := by decide
     refine xIn Tryz.f83 fun E0 w0 hL hC hk => ?_
     refine xR 24 [(3, dB ((iEq ((↑n : Int)) 0).trans (DF (p := (↑n : Int) = 0) (by omega)))), (5, dGl0)] ?_
     refine xPk (vV (.slice none 0 0)) [] (RowD 1 9 strEl []) [3] [] (fun _ _ => ⟨rfl, row_nil _ _ _⟩) ?_
     refine xR 0 [] ?_
     refine xUn 4 ?_
     refine xR 29 [(7, dC (k1 _) [0])] ?_
     refine xUm 3 ?_
     refine xR 36 [(7, dC (k6 _) [0]), (12, dApp_strEl [] 1 4 ({ data := #[116, 99, 112] }) ql0)] ?_
     refine xUm 2 ?_
     refine xR 29 [(7, dC (k7 _) [0])] ?_
     refine xUm 1 ?_
     refine xR 13 [(2, dC (kj _) [5])] ?_
     exact (xRetC [])
    ·have kj := fun C => c_joinD (C := C) ((([] : List ByteArray) ++ [pT]) ++ [pU]) ⟨#[44]⟩ (by decide) (by decide) (by decide)
     have ql0 : ([] : List ByteArray).length < 500000 := by decide
     have ql1 : (([] : List ByteArray) ++ [({ data := #[116, 99, 112] } : ByteArray)]).length < 500000 := by decide
     refine xIn Tryz.f83 fun E0 w0 hL hC hk => ?_
     refine xR 24 [(3, dB ((iEq ((↑n : Int)) 0).trans (DF (p := (↑n : Int) = 0) (by omega)))), (5, dGl0)] ?_
     refine xPk (vV (.slice none 0 0)) [] (RowD 1 9 strEl []) [3] [] (fun _ _ => ⟨rfl, row_nil _ _ _⟩) ?_
     refine xR 0 [] ?_
     refine xUn 4 ?_
     refine xR 29 [(7, dC (k1 _) [0])] ?_
     refine xUm 3 ?_
     refine xR 36 [(7, dC (k6 _) [0]), (12, dApp_strEl [] 1 4 ({ data := #[116, 99, 112] }) ql0)] ?_
     refine xUm 2 ?_
     refine xR 36 [(7, dC (k7 _) [0]), (12, dApp_strEl ([] ++ [{ data := #[116, 99, 112] }]) 5 7 ({ data := #[117, 100, 112] }) ql1)] ?_
     refine xUm 1 ?_
     refine xR 13 [(2, dC (kj _) [8])] ?_
     exact (xRetC [])
  ·cases r2
   ·cases r3
    ·have kj := fun C => c_joinD (C := C) (([] : List ByteArray) ++ [pI]) ⟨#[44]⟩ (by decide) (by decide) (by decide)
     have ql0 : ([] : List ByteArray).length < 500000 := by decide
     refine xIn Tryz.f83 fun E0 w0 hL hC hk => ?_
     refine xR 24 [(3, dB ((iEq ((↑n : Int)) 0).trans (DF (p := (↑n : Int) = 0) (by omega)))), (5, dGl0)] ?_
     refine xPk (vV (.slice none 0 0)) [] (RowD 1 9 strEl []) [3] [] (fun _ _ => ⟨rfl, row_nil _ _ _⟩) ?_
     refine xR 0 [] ?_
     refine xUn 4 ?_
     refine xR 36 [(7, dC (k1 _) [0]), (12, dApp_strEl [] 1 3 ({ data := #[105, 99, 109, 112] }) ql0)] ?_
     refine xUm 3 ?_
     refine xR 29 [(7, dC (k6 _) [0])] ?_
     refine xUm 2 ?_
     refine xR 29 [(7, dC (k7 _) [0])] ?_
     refine xUm 1 ?_
     refine xR 13 [(2, dC (kj _) [4])] ?_
     exact (xRetC [])
    ·have kj := fun C => c_joinD (C := C) ((([] : List ByteArray) ++ [pI]) ++ [pU]) ⟨#[44]⟩ (by decide) (by decide) (by decide)
     have ql0 : ([] : List ByteArray).length < 500000 := by decide
     have ql1 : (([] : List ByteArray) ++ [({ data := #[105, 99, 109, 112] } : ByteArray)]).length < 500000 := by decide
     refine xIn Tryz.f83 fun E0 w0 hL hC hk => ?_
     refine xR 24 [(3, dB ((iEq ((↑n : Int)) 0).trans (DF (p := (↑n : Int) = 0) (by omega)))), (5, dGl0)] ?_
     refine xPk (vV (.slice none 0 0)) [] (RowD 1 9 strEl []) [3] [] (fun _ _ => ⟨rfl, row_nil _ _ _⟩) ?_
     refine xR 0 [] ?_
     refine xUn 4 ?_
     refine xR 36 [(7, dC (k1 _) [0]), (12, dApp_strEl [] 1 3 ({ data := #[105, 99, 109, 112] }) ql0)] ?_
     refine xUm 3 ?_
     refine xR 29 [(7, dC (k6 _) [0])] ?_
     refine xUm 2 ?_
     refine xR 36 [(7, dC (k7 _) [0]), (12, dApp_strEl ([] ++ [{ data := #[105, 99, 109, 112] }]) 4 7 ({ data := #[117, 100, 112] }) ql1)] ?_
     refine xUm 1 ?_
     refine xR 13 [(2, dC (kj _) [8])] ?_
     exact (xRetC [])
   ·cases r3
    ·have kj := fun C => c_joinD (C := C) ((([] : List ByteArray) ++ [pI]) ++ [pT]) ⟨#[44]⟩ (by decide) (by decide) (by decide)
     have ql0 : ([] : List ByteArray).length < 500000 := by decide
     have ql1 : (([] : List ByteArray) ++ [({ data := #[105, 99, 109, 112] } : ByteArray)]).length < 500000 := by decide
     refine xIn Tryz.f83 fun E0 w0 hL hC hk => ?_
     refine xR 24 [(3, dB ((iEq ((↑n : Int)) 0).trans (DF (p := (↑n : Int) = 0) (by omega)))), (5, dGl0)] ?_
     refine xPk (vV (.slice none 0 0)) [] (RowD 1 9 strEl []) [3] [] (fun _ _ => ⟨rfl, row_nil _ _ _⟩) ?_
     refine xR 0 [] ?_
     refine xUn 4 ?_
     refine xR 36 [(7, dC (k1 _) [0]), (12, dApp_strEl [] 1 3 ({ data := #[105, 99, 109, 112] }) ql0)] ?_
     refine xUm 3 ?_
     refine xR 36 [(7, dC (k6 _) [0]), (12, dApp_strEl ([] ++ [{ data := #[105, 99, 109, 112] }]) 4 6 ({ data := #[116, 99, 112] }) ql1)] ?_
     refine xUm 2 ?_
     refine xR 29 [(7, dC (k7 _) [0])] ?_
     refine xUm 1 ?_
     refine xR 13 [(2, dC (kj _) [7])] ?_
     exact (xRetC [])
    ·have kj := fun C => c_joinD (C := C) (((([] : List ByteArray) ++ [pI]) ++ [pT]) ++ [pU]) ⟨#[44]⟩ (by decide) (by decide) (by decide)
     have ql0 : ([] : List ByteArray).length < 500000 := by decide
     have ql1 : (([] : List ByteArray) ++ [({ data := #[105, 99, 109, 112] } : ByteArray)]).length < 500000 := by decide
     have ql2 : ((([] : List ByteArray) ++ [({ data := #[105, 99, 109, 112] } : ByteArray)]) ++ [({ data := #[116, 99, 112] } : ByteArray)]).length < 500000 := by decide
     refine xIn Tryz.f83 fun E0 w0 hL hC hk => ?_
     refine xR 24 [(3, dB ((iEq ((↑n : Int)) 0).trans (DF (p := (↑n : Int) = 0) (by omega)))), (5, dGl0)] ?_
     refine xPk (vV (.slice none 0 0)) [] (RowD 1 9 strEl []) [3] [] (fun _ _ => ⟨rfl, row_nil _ _ _⟩) ?_
     refine xR 0 [] ?_
     refine xUn 4 ?_
     refine xR 36 [(7, dC (k1 _) [0]), (12, dApp_strEl [] 1 3 ({ data := #[105, 99, 109, 112] }) ql0)] ?_
     refine xUm 3 ?_
     refine xR 36 [(7, dC (k6 _) [0]), (12, dApp_strEl ([] ++ [{ data := #[105, 99, 109, 112] }]) 4 6 ({ data := #[116, 99, 112] }) ql1)] ?_
     refine xUm 2 ?_
     refine xR 36 [(7, dC (k7 _) [0]), (12, dApp_strEl ([] ++ [{ data := #[105, 99, 109, 112] }] ++ [{ data := #[116, 99, 112] }]) 7 9 ({ data := #[117, 100, 112] }) ql2)] ?_
     refine xUm 1 ?_
     refine xR 13 [(2, dC (kj _) [10])] ?_
     exact (xRetC [])
end Go.Proofs.YtbdgncndhnnjoaaGreatDoor

namespace Go.Proofs.YtbdgncndhnnjoaaGreatDoor
open Go.RowKit YtbdgncndhnnjoaaGreatDoor
set_option linter.unusedVariables false
set_option linter.unusedSimpArgs false
set_option maxHeartbeats 0
set_option maxRecDepth 100000
theorem buf_appN {P : Program} {w : World} {t ty e : TypeId} {K : Nat} {zv : Value} (ht : P.underlying t = some (.slice e)) (hin : InfoK P e K zv) (hzc : zv.cells.size = K) {n : Nat} {cs : List Value} {v : Value} {T : List Blk} (hB : Buf K e n cs v T) (hat : ∀ b ∈ T, w.heap[b.g]? = some b.Z) (hn : 0 < n) {m : Nat} {x : Value} {xs : List Value} (hsrc : Src P K t x m xs w) (hle : n + m ≤ 500000) :
  ∃ v' T' w', (Builtin.append_ #[t, t] ty #[v, x]).run P w = .ok v' w' ∧ Buf K e (n + m) (cs ++ xs) v' T' ∧ OkT w w' T T' := by
 obtain ⟨info, i1, i2, i3, i4⟩ := hin
 subst i3
 have hlen := hB.1
 have hxl := hsrc.newsLen
 have ea : ∀ (g k : Nat), (⟨g, 0, none⟩ : Addr).add k = ⟨g, k, none⟩ := fun g k => by simp [Addr.add_lit]
 have hll : (cs ++ xs).length = (n + m) * info.size := by rw [List.length_append, hxl, hlen, Nat.add_mul]
 have grow : ∀ (base : Option Addr) (cap : Nat), v = .slice base n cap → ¬ n + m ≤ cap → n ≤ cap → (Builtin.firstCells info.size n (.slice base n cap)).run P w.drew = .ok cs.toArray w.drew → ∃ v' T' w', (Builtin.append_ #[t, t] ty #[v, x]).run P w = .ok v' w' ∧ Buf info.size e (n + m) (cs ++ xs) v' T' ∧ OkT w w' T T' := fun base cap hsv hroom hnc hold => by
  have hr := run_append_grow_src (P := P) w t t ty e info zv ht i1 i2 base n cap cs hold x m _ hsrc (by omega) (by omega) (growslice_fits (by omega) (by
    have := Nat.mul_le_mul hle i4
    omega))
  have hge := grownCap_ge w (n + m) cap e
  generalize grownCap w (n + m) cap e = nc at hr hge
  obtain ⟨q, rfl⟩ : ∃ q, nc = n + m + q := ⟨nc - (n + m), by omega⟩
  subst hsv
  refine ⟨_, [⟨w.heap.size, .cells ((cs ++ xs).toArray ++ Builtin.zeroCells zv.cells (n + m + q - (n + m))) e (0, 0)⟩], _, hr, ⟨hll, .inr ⟨w.heap.size, n + m + q, cs ++ xs ++ (Builtin.zeroCells zv.cells (n + m + q - (n + m))).toList, rfl, by omega, ?_, ?_, ?_⟩⟩, ⟨rfl, rfl, rfl, by simp, fun k hk _ => Below.heap_alloc _ _ _ hk⟩, ?_, by simp, by simp⟩
  ·rw [List.length_append, hll, Array.length_toList, size_zeroCells, hzc, Nat.add_sub_cancel_left, ← Nat.add_mul]
  ·rw [← hll]
   exact List.take_left
  ·refine congrArg (fun A => [(⟨w.heap.size, .cells A e (0, 0)⟩ : Blk)]) (Array.ext' (by simp))
  ·intro b hb
   simp only [List.mem_singleton] at hb
   subst hb
   exact heap_alloc_new w.drew _
 rcases hB.2 with ⟨hn0, ⟨a0, hv⟩, rfl⟩ | ⟨g, cap, Z, hv, hnc, hZ, hcs, rfl⟩
 ·omega
 ·have hg : w.heap[g]? = some (.cells Z.toArray e (0, 0)) := hat ⟨g, .cells Z.toArray e (0, 0)⟩ (by simp)
  by_cases hroom : n + m ≤ cap
  ·have hcm : n * info.size + m * info.size ≤ cap * info.size := by rw [← Nat.add_mul]; exact Nat.mul_le_mul_right _ hroom
   have hr := run_append_room_src (P := P) w t t ty e info ht i1 g 0 n cap x m _ hsrc hroom (fun k hk => by
     rw [Nat.zero_add, cell_at hg, List.getElem?_eq_getElem (by omega)]
     rfl) (fun k hk => by
     unfold World.frozen?
     rw [hg]
     simp)
   rw [Nat.zero_add] at hr
   subst hv
   refine ⟨_, [⟨g, .cells (Z.take (n * info.size) ++ xs ++ Z.drop (n * info.size + xs.length)).toArray e (0, 0)⟩], _, hr, ⟨hll, .inr ⟨g, cap, _, rfl, by omega, ?_, ?_, rfl⟩⟩, grw_setCells _ _ _ _, ?_, by simp, by simp⟩
   ·simp only [List.length_append, List.length_take, List.length_drop]
    omega
   ·rw [show (n + m) * info.size = n * info.size + xs.length by rw [Nat.add_mul, hxl], setAll_take xs Z _ (by omega), hcs]
   ·intro b hb
    simp only [List.mem_singleton] at hb
    subst hb
    rw [heap_setCells _ _ _ _ _ _ hg, setAll_eq _ _ _ (by omega), List.append_assoc]
  ·exact grow _ cap hv hroom hnc (run_firstCells_some w.drew info.size n ⟨g, 0, none⟩ n cap cs hlen (fun k u hu => by
    rw [ea]
    have hk := (List.getElem?_eq_some_iff.1 hu).1
    rw [cell_at (W := w.drew) hg, ← hu, ← hcs, List.getElem?_take_of_lt (by omega)]))
theorem els_app {α : Type} {el : α → List Value → List Blk → Prop} {K : Nat} : ∀ {l m : List α} {c d : List Value} {T U : List Blk}, Els el K l c T → Els el K m d U → Els el K (l ++ m) (c ++ d) (T ++ U)
 | [], _, _, _, _, _, ⟨rfl, rfl⟩, h => by simpa using h
 | x :: l, m, _, d, _, U, ⟨c1, c2, T1, T2, rfl, h1, rfl, hx, h2⟩, h => ⟨c1, c2 ++ d, T1, T2 ++ U, by simp, h1, by simp, hx, els_app h2 h⟩
theorem buf_src {P : Program} {K : Nat} {t e : TypeId} {n : Nat} {cs : List Value} {v : Value} {T : List Blk} {w : World} (ht : P.underlying t = some (.slice e)) (hB : Buf K e n cs v T) (hat : ∀ b ∈ T, w.heap[b.g]? = some b.Z) (h1 : ∀ u ∈ cs, u.oneCell' = true) : Src P K t v n cs w := by
 have hlen := hB.1
 rcases hB.2 with ⟨h0, ⟨a, rfl⟩, rfl⟩ | ⟨g, cap, Z, rfl, hc, hZ, hZt, rfl⟩
 ·subst h0
  have hc : cs = [] := List.length_eq_zero_iff.1 (by simpa using hlen)
  subst hc
  cases a with
  | none => exact Src.ofNil w ht 0
  | some a => exact Src.ofSlice w ht a 0 0 [] (by simp) (fun j u h => by simp at h) (fun u h => by cases h)
 ·have hg : w.heap[g]? = some (.cells Z.toArray e (0, 0)) := hat ⟨g, .cells Z.toArray e (0, 0)⟩ (by simp)
  refine Src.ofSlice w ht ⟨g, 0, none⟩ n cap cs hlen (fun j u hu => ?_) h1
  have hk := (List.getElem?_eq_some_iff.1 hu).1
  rw [show (⟨g, 0, none⟩ : Addr).add j = ⟨g, j, none⟩ by simp [Addr.add_lit], cell_at hg, ← hu, ← hZt, List.getElem?_take_of_lt (by omega)]
theorem ls_appR {P : Program} {S : Seat P} {C : World → Prop} {t ty e : TypeId} {K : Nat} {zv : Value} (ht : P.underlying t = some (.slice e)) (hin : InfoK P e K zv) (hzc : zv.cells.size = K) {α : Type} (el : α → List Value → List Blk → Prop) (h1 : ∀ l cs T, Els el K l cs T → ∀ u ∈ cs, u.oneCell' = true) (l m : List α) (b b1 b2 : Nat) (h0 : 0 < l.length) (hle : l.length + m.length ≤ 500000) :
  LS S C (oBi .append [t, t] ty [false, false] [vW b1, vW b2]).sem [(b1, tD (RowD K e el l)), (b2, tD (RowD K e el m))] (newAt b 1) (vW b) ([(b1, gap), (b2, gap)] ++ [(b, tD (RowD K e el (l ++ m)))]) := by
 intro E w hL hC T hok
 have ho1 : RowD K e el l (E b1).v (E b1).T := hok (b1, tD (RowD K e el l)) (by simp)
 have ho2 : RowD K e el m (E b2).v (E b2).T := hok (b2, tD (RowD K e el m)) (by simp)
 obtain ⟨cs, Tb, Te, hB, hE, hT⟩ := ho1
 obtain ⟨ds, Ub, Ue, hB2, hE2, hT2⟩ := ho2
 have hden : denP E [(b1, tD (RowD K e el l)), (b2, tD (RowD K e el m))] = Tb ++ (Te ++ (Ub ++ Ue)) := by
  show (E b1).T ++ ((E b2).T ++ []) = _
  rw [hT, hT2, List.append_nil, List.append_assoc]
 rw [hden] at T
 have hat : ∀ b ∈ Tb, w.heap[b.g]? = some b.Z := fun z hz => T.at_ z (by simp [hz])
 have hat2 : ∀ b ∈ Ub, w.heap[b.g]? = some b.Z := fun z hz => T.at_ z (by simp [hz])
 obtain ⟨v', T', w', hr, hB', hT'⟩ := buf_appN (ty := ty) ht hin hzc hB hat h0 (buf_src ht hB2 hat2 (h1 _ _ _ hE2)) hle
 have hrun : ((oBi .append [t, t] ty [false, false] [vW b1, vW b2]).sem E).run P w = .ok (.value v') w' := by
  show (do pure (Next.value (← Builtin.append_ #[t, t] ty #[(E b1).v, (E b2).v])) : Sem Next).run P w = _
  simp only [Sem.run_bind, hr, Result.andThen_ok, Sem.run_pure]
 rw [hrun]
 let E' : Nat → Ent := fun i => bif Nat.beq i b then ⟨0, v', T' ++ (Te ++ Ue), buf_one hB'⟩ else E i
 have hb : E' b = ⟨0, v', T' ++ (Te ++ Ue), buf_one hB'⟩ := by
  have : Nat.beq b b = true := nbeq.2 rfl
  simp only [E', this, cond_true]
 refine ⟨E', fun i hi => ?_, ?_, ?_, ?_⟩
 ·have : Nat.beq i b = false := by
   cases h : Nat.beq i b with
   | false => rfl
   | true =>
    have h2 : newAt b 1 b = true := by simp [newAt, Nat.blt_eq]
    rw [nbeq.1 h, h2] at hi
    cases hi
  simp only [E', this, cond_false]
 ·intro p hp
  simp only [List.cons_append, List.nil_append, List.mem_cons, List.mem_nil_iff, or_false] at hp
  rcases hp with rfl | rfl | rfl
  ·exact trivial
  ·exact trivial
  ·show RowD K e el (l ++ m) (E' b).v (E' b).T
   rw [hb]
   exact ⟨_, T', Te ++ Ue, by rw [List.length_append]; exact hB', els_app hE hE2, rfl⟩
 ·show v' = (E' b).v
  rw [hb]
 ·have hd2 : denP E' ([(b1, gap), (b2, gap)] ++ [(b, tD (RowD K e el (l ++ m)))]) = T' ++ (Te ++ Ue) := by
   show [] ++ ([] ++ ((E' b).T ++ [])) = _
   rw [hb, List.append_nil]
   rfl
  rw [hd2, hden]
  have M := (Mem.start hL T).step hT'
  have M2 : Mem S ⟨w, (Tb ++ (Te ++ (Ub ++ Ue))).map Blk.g⟩ (T' ++ (Te ++ Ue)) w' := M.drop (List.Sublist.append_left (List.Sublist.append_left (List.sublist_append_right _ _) _) _)
  exact M2.okT
def dAppR {P : Program} {S : Seat P} {C : World → Prop} (t ty e : TypeId) (K : Nat) (zv : Value) {α : Type} (el : α → List Value → List Blk → Prop) (hel : ∀ l cs T, Els el K l cs T → ∀ u ∈ cs, u.oneCell' = true) (l m : List α) (b1 b2 : Nat) (h0 : 0 < l.length) (hle : l.length + m.length ≤ 500000)
  (ht : P.underlying t = some (.slice e) := by kernel_rfl) (h1 : (P.info? e).map (·.zero) = some (some zv) := by kernel_rfl) (h2 : (P.info? e).map (·.size) = some K := by kernel_rfl) (hB : ((P.info? e).map fun i => Nat.ble i.bytes 128) = some true := by kernel_rfl)
  (hq : Nat.beq zv.cells.size K = true := by kernel_rfl) : Dr S C :=
 dSp fun b => ⟨oBi .append [t, t] ty [false, false] [vW b1, vW b2], [], [(b1, tD (RowD K e el l)), (b2, tD (RowD K e el m))], [gap, gap], [tD (RowD K e el (l ++ m))], vW b, fun _ hb => by
  have hin : InfoK P e K zv := by
   cases h : P.info? e with
   | none => rw [h] at h2; cases h2
   | some i =>
    rw [h] at h1 h2 hB
    simp only [Option.map_some, Option.some.injEq] at h1 h2 hB
    exact ⟨i, h, h1, h2, Nat.le_of_ble_eq_true hB⟩
  have := ls_appR (S := S) (C := C) (ty := ty) ht hin (nbeq.1 hq) el hel l m b b1 b2 h0 hle
  exact this⟩
theorem str_one : ∀ (l : List ByteArray) (cs : List Value) (T : List Blk), Els strEl 1 l cs T → ∀ u ∈ cs, u.oneCell' = true := fun l cs T h u hu => by
 obtain ⟨rfl, -⟩ := els_str h
 obtain ⟨s, -, rfl⟩ := List.mem_map.1 hu
 rfl
def dAppS {C : World → Prop} (l m : List ByteArray) (b1 b2 : Nat) (h0 : 0 < l.length) (hle : l.length + m.length ≤ 500000) : Dr S0 C := dAppR 44 44 9 1 (.string ⟨#[]⟩) strEl str_one l m b1 b2 h0 hle
end Go.Proofs.YtbdgncndhnnjoaaGreatDoor

namespace Go.Proofs.YtbdgncndhnnjoaaGreatDoor
open Go.RowKit YtbdgncndhnnjoaaGreatDoor
set_option linter.unusedVariables false
set_option linter.unusedSimpArgs false
set_option maxHeartbeats 0
set_option maxRecDepth 100000
variable {C : World → Prop}
theorem row_str (l : List ByteArray) (g : Nat) (h : 0 < l.length) : RowD 1 9 strEl l (.slice (some ⟨g, 0, none⟩) l.length l.length) [⟨g, .cells (l.map Value.string).toArray 9 (0, 0)⟩] := by
 have hE : ∀ l : List ByteArray, Els strEl 1 l (l.map Value.string) [] := by
  intro l
  induction l with
  | nil => exact ⟨rfl, rfl⟩
  | cons x l ih => exact ⟨[.string x], _, [], [], rfl, rfl, rfl, ⟨rfl, rfl⟩, ih⟩
 refine ⟨l.map Value.string, [⟨g, .cells (l.map Value.string).toArray 9 (0, 0)⟩], [], ⟨by simp, .inr ⟨g, l.length, l.map Value.string, rfl, Nat.le_refl _, by simp, ?_, rfl⟩⟩, hE l, by simp⟩
 rw [Nat.mul_one, ← List.length_map (f := Value.string), List.take_length]
abbrev wFr : ByteArray := ⟨#[102, 114, 111, 109]⟩
abbrev wTo : ByteArray := ⟨#[116, 111]⟩
abbrev wPo : ByteArray := ⟨#[112, 111, 114, 116, 115]⟩
def acB {T : List Blk} (a : AcM T) : Prop := (∀ i, i < a.sn → ((a.sf i).kind = 1 ∨ (a.sf i).kind = 2 ∨ (a.sf i).kind = 3 ∨ (a.sf i).kind = 4 ∨ (a.sf i).kind = 5 ∨ (a.sf i).kind = 6) ∧ (0 ≤ (a.sf i).net.bits ∧ (a.sf i).net.bits ≤ 255) ∧ (a.sf i).name.size ≤ 100000 ∧ (Ip.ptx (a.sf i).net.v6 (a.sf i).net.hi (a.sf i).net.lo (a.sf i).net.bits).size ≤ 100000) ∧ (∀ i, i < a.dn → ((a.df i).kind = 1 ∨ (a.df i).kind = 2 ∨ (a.df i).kind = 3 ∨ (a.df i).kind = 4 ∨ (a.df i).kind = 5 ∨ (a.df i).kind = 6) ∧ (0 ≤ (a.df i).net.bits ∧ (a.df i).net.bits ≤ 255) ∧ (a.df i).name.size ≤ 100000 ∧ (Ip.ptx (a.df i).net.v6 (a.df i).net.hi (a.df i).net.lo (a.df i).net.bits).size ≤ 100000) ∧ (∀ i, i < a.tn → (0 ≤ a.ta i ∧ a.ta i < 65536) ∧ (0 ≤ a.te i ∧ a.te i < 65536)) ∧ a.sn ≤ 64 ∧ a.dn ≤ 64 ∧ a.tn ≤ 64
def acL {T : List Blk} (a : AcM T) : List ByteArray := (([wA, prT a.pn a.pf, wFr] ++ txL (fun i => seT (a.sf i)) a.sn) ++ [wTo]) ++ txL (fun i => seT (a.df i)) a.dn
def acW {T : List Blk} (a : AcM T) : List ByteArray := if a.tn = 0 then acL a else (acL a ++ [wPo]) ++ txL (fun i => rgT (a.ta i) (a.te i)) a.tn
theorem c_aclWords (T : List Blk) (a : AcM T) (hb : acB a) : Ct S0 C 47 [vG a.vs] [tX T] [] [] [tD (RowD 1 9 strEl (acW a))] (vW 1) := by
 obtain ⟨b1, b2, b3, n1, n2, n3⟩ := hb
 have k1 := fun C => c_protosText (C := C) T a.pn a.pf _ a.ph a.pm
 have k2 := fun C => c_textsS (C := C) T a.sn a.sf _ a.sh (by omega) b1
 have k3 := fun C => c_textsS (C := C) T a.dn a.df _ a.dh (by omega) b2
 have k4 := fun C => c_textsP (C := C) T a.tn a.ta a.te _ a.th (by omega) b3
 unfold acW acL
 have z1 := txL_len (fun i => seT (a.sf i)) a.sn
 have z2 := txL_len (fun i => seT (a.df i)) a.dn
 have z3 := txL_len (fun i => rgT (a.ta i) (a.te i)) a.tn
 generalize txL (fun i => seT (a.sf i)) a.sn = l1 at k2 z1
 generalize txL (fun i => seT (a.df i)) a.dn = l2 at k3 z2
 generalize txL (fun i => rgT (a.ta i) (a.te i)) a.tn = l3 at k4 z3
 generalize prT a.pn a.pf = pt at k1
 have ql1 : ([wA, pt, wFr] ++ l1).length < 500000 := by simp; omega
 have ql2 : (([wA, pt, wFr] ++ l1) ++ [wTo] ++ l2).length < 500000 := by simp; omega
 refine xIn Tryz.f47 fun E0 w0 hL hC hk => ?_
 refine xR 19 [(4, dC (k1 _) [0]), (10, dC (k2 _) [0])] ?_
 refine xPk (vS 2 0 3 3) [(2, tC [vV (.string wA), vV (.string pt), vV (.string wFr)] 9)] (RowD 1 9 strEl [wA, pt, wFr]) [3, 7, 8] [] (fun E _ => ⟨rfl, row_str [wA, pt, wFr] (E 2).g (by simp)⟩) ?_
 refine xR 1 [(0, dAppS [wA, pt, wFr] l1 4 3 (by simp) (by simp; omega))] ?_
 refine xR 15 [(3, dApp_strEl ([wA, pt, wFr] ++ l1) 5 6 ({ data := #[116, 111] }) ql1), (8, dC (k3 _) [0])] ?_
 refine xR 1 [(0, dAppS ([wA, pt, wFr] ++ l1 ++ [wTo]) l2 7 8 (by simp) (by simp; omega))] ?_
 by_cases q1 : a.tn = 0
 ·rw [if_pos q1]
  have q2 : ¬ (a.tn : Int) > 0 := by omega
  refine xR 17 [(4, dF q2)] ?_
  exact (xRetC [9])
 ·rw [if_neg q1]
  have q2 : (a.tn : Int) > 0 := by omega
  have ql3 : ([wA, pt, wFr] ++ l1 ++ [wTo] ++ l2).length < 500000 := ql2
  refine xR 23 [(4, dT q2), (7, dApp_strEl ([wA, pt, wFr] ++ l1 ++ [wTo] ++ l2) 9 10 ({ data := #[112, 111, 114, 116, 115] }) ql2), (12, dC (k4 _) [0])] ?_
  refine xR 1 [(0, dAppS ([wA, pt, wFr] ++ l1 ++ [wTo] ++ l2 ++ [wPo]) l3 11 12 (by simp) (by simp; omega))] ?_
  refine xR 7 [] ?_
  exact (xRetC [13])
end Go.Proofs.YtbdgncndhnnjoaaGreatDoor

namespace Go.Proofs.YtbdgncndhnnjoaaGreatDoor
open Go.RowKit YtbdgncndhnnjoaaGreatDoor
set_option linter.unusedVariables false
set_option linter.unusedSimpArgs false
set_option maxHeartbeats 0
set_option maxRecDepth 100000
theorem buf_appX {P : Program} {w : World} {t tx ty e : TypeId} {K : Nat} {zv : Value} (ht : P.underlying t = some (.slice e)) (hin : InfoK P e K zv) (hzc : zv.cells.size = K) {n : Nat} {cs : List Value} {v : Value} {T : List Blk} (hB : Buf K e n cs v T) (hat : ∀ b ∈ T, w.heap[b.g]? = some b.Z) {m : Nat} {x : Value} {xs : List Value} (hsrc : Src P K tx x m xs w) (hm : 0 < m) (hle : n + m ≤ 10000000) :
  ∃ v' T' w', (Builtin.append_ #[t, tx] ty #[v, x]).run P w = .ok v' w' ∧ Buf K e (n + m) (cs ++ xs) v' T' ∧ OkT w w' T T' := by
 obtain ⟨info, i1, i2, i3, i4⟩ := hin
 subst i3
 have hlen := hB.1
 have hxl := hsrc.newsLen
 have ea : ∀ (g k : Nat), (⟨g, 0, none⟩ : Addr).add k = ⟨g, k, none⟩ := fun g k => by simp [Addr.add_lit]
 have hll : (cs ++ xs).length = (n + m) * info.size := by rw [List.length_append, hxl, hlen, Nat.add_mul]
 have grow : ∀ (base : Option Addr) (cap : Nat), v = .slice base n cap → ¬ n + m ≤ cap → n ≤ cap → (Builtin.firstCells info.size n (.slice base n cap)).run P w.drew = .ok cs.toArray w.drew → ∃ v' T' w', (Builtin.append_ #[t, tx] ty #[v, x]).run P w = .ok v' w' ∧ Buf info.size e (n + m) (cs ++ xs) v' T' ∧ OkT w w' T T' := fun base cap hsv hroom hnc hold => by
  have hr := run_append_grow_src (P := P) w t tx ty e info zv ht i1 i2 base n cap cs hold x m _ hsrc (by omega) (by omega) (growslice_fits (by omega) (by
    have := Nat.mul_le_mul hle i4
    omega))
  have hge := grownCap_ge w (n + m) cap e
  generalize grownCap w (n + m) cap e = nc at hr hge
  obtain ⟨q, rfl⟩ : ∃ q, nc = n + m + q := ⟨nc - (n + m), by omega⟩
  subst hsv
  refine ⟨_, [⟨w.heap.size, .cells ((cs ++ xs).toArray ++ Builtin.zeroCells zv.cells (n + m + q - (n + m))) e (0, 0)⟩], _, hr, ⟨hll, .inr ⟨w.heap.size, n + m + q, cs ++ xs ++ (Builtin.zeroCells zv.cells (n + m + q - (n + m))).toList, rfl, by omega, ?_, ?_, ?_⟩⟩, ⟨rfl, rfl, rfl, by simp, fun k hk _ => Below.heap_alloc _ _ _ hk⟩, ?_, by simp, by simp⟩
  ·rw [List.length_append, hll, Array.length_toList, size_zeroCells, hzc, Nat.add_sub_cancel_left, ← Nat.add_mul]
  ·rw [← hll]
   exact List.take_left
  ·refine congrArg (fun A => [(⟨w.heap.size, .cells A e (0, 0)⟩ : Blk)]) (Array.ext' (by simp))
  ·intro b hb
   simp only [List.mem_singleton] at hb
   subst hb
   exact heap_alloc_new w.drew _
 rcases hB.2 with ⟨hn0, ⟨a0, hv⟩, rfl⟩ | ⟨g, cap, Z, hv, hnc, hZ, hcs, rfl⟩
 ·subst hn0
  have hl0 : cs = [] := List.length_eq_zero_iff.1 (by simpa using hlen)
  subst hl0
  exact grow a0 0 hv (by omega) (by omega) (firstCells0 w.drew info.size a0)
 ·have hg : w.heap[g]? = some (.cells Z.toArray e (0, 0)) := hat ⟨g, .cells Z.toArray e (0, 0)⟩ (by simp)
  by_cases hroom : n + m ≤ cap
  ·have hcm : n * info.size + m * info.size ≤ cap * info.size := by rw [← Nat.add_mul]; exact Nat.mul_le_mul_right _ hroom
   have hr := run_append_room_src (P := P) w t tx ty e info ht i1 g 0 n cap x m _ hsrc hroom (fun k hk => by
     rw [Nat.zero_add, cell_at hg, List.getElem?_eq_getElem (by omega)]
     rfl) (fun k hk => by
     unfold World.frozen?
     rw [hg]
     simp)
   rw [Nat.zero_add] at hr
   subst hv
   refine ⟨_, [⟨g, .cells (Z.take (n * info.size) ++ xs ++ Z.drop (n * info.size + xs.length)).toArray e (0, 0)⟩], _, hr, ⟨hll, .inr ⟨g, cap, _, rfl, by omega, ?_, ?_, rfl⟩⟩, grw_setCells _ _ _ _, ?_, by simp, by simp⟩
   ·simp only [List.length_append, List.length_take, List.length_drop]
    omega
   ·rw [show (n + m) * info.size = n * info.size + xs.length by rw [Nat.add_mul, hxl], setAll_take xs Z _ (by omega), hcs]
   ·intro b hb
    simp only [List.mem_singleton] at hb
    subst hb
    rw [heap_setCells _ _ _ _ _ _ hg, setAll_eq _ _ _ (by omega), List.append_assoc]
  ·exact grow _ cap hv hroom hnc (run_firstCells_some w.drew info.size n ⟨g, 0, none⟩ n cap cs hlen (fun k u hu => by
    rw [ea]
    have hk := (List.getElem?_eq_some_iff.1 hu).1
    rw [cell_at (W := w.drew) hg, ← hu, ← hcs, List.getElem?_take_of_lt (by omega)]))
theorem ls_apX {P : Program} {S : Seat P} {C : World → Prop} {t tx ty e : TypeId} {K : Nat} {zv : Value} (ht : P.underlying t = some (.slice e)) (hin : InfoK P e K zv) (hzc : zv.cells.size = K) (f1 f2 : Bool) (b bb : Nat) (bk : Blk) (Tb : List Blk) (n : Nat) (cs : List Value) (sv : Value) (hB : Buf K e n cs sv Tb) (s2 : SV) (sub : List (Nat × It)) (m : Nat) (xs : List Value)
  (hsrc : ∀ (E : Nat → Ent) (w : World), (∀ x ∈ denP E sub, w.heap[x.g]? = some x.Z) → Src P K tx (s2.den E) m xs w) (hm : 0 < m) (hle : n + m ≤ 10000000) :
  LS S C (oBi .append [t, tx] ty [f1, f2] [vV sv, s2]).sem ((b, tX (bk :: Tb)) :: sub) (newAt bb 1) (vW bb) (((b, tX [bk]) :: sub.map (fun p => (p.1, gap))) ++ [(bb, tD (Buf K e (n + m) (cs ++ xs)))]) := by
 intro E w hL hC T hok
 have hden : denP E ((b, tX (bk :: Tb)) :: sub) = (bk :: Tb) ++ denP E sub := rfl
 have hat : ∀ z ∈ Tb, w.heap[z.g]? = some z.Z := fun z hz => T.at_ z (by rw [hden]; simp [hz])
 obtain ⟨v', T', w', hr, hB', hT'⟩ := buf_appX (ty := ty) ht hin hzc hB hat (hsrc E w fun x hx => T.at_ x (by rw [hden]; simp [hx])) hm hle
 have hrun : ((oBi .append [t, tx] ty [f1, f2] [vV sv, s2]).sem E).run P w = .ok (.value v') w' := by
  show (do pure (Next.value (← Builtin.append_ #[t, tx] ty #[sv, s2.den E])) : Sem Next).run P w = _
  simp only [Sem.run_bind, hr, Result.andThen_ok, Sem.run_pure]
 rw [hrun]
 let E' : Nat → Ent := fun i => bif Nat.beq i bb then ⟨0, v', T', buf_one hB'⟩ else E i
 have hb : E' bb = ⟨0, v', T', buf_one hB'⟩ := by
  have : Nat.beq bb bb = true := nbeq.2 rfl
  simp only [E', this, cond_true]
 refine ⟨E', fun i hi => ?_, ?_, ?_, ?_⟩
 ·have : Nat.beq i bb = false := by
   cases h : Nat.beq i bb with
   | false => rfl
   | true =>
    have h2 : newAt bb 1 bb = true := by simp [newAt, Nat.blt_eq]
    rw [nbeq.1 h, h2] at hi
    cases hi
  simp only [E', this, cond_false]
 ·rw [okP_app]
  refine ⟨fun p hp => ?_, fun p hp => ?_⟩
  ·rcases List.mem_cons.1 hp with rfl | hp
   ·exact trivial
   ·obtain ⟨q, _, rfl⟩ := List.mem_map.1 hp
    exact trivial
  ·simp only [List.mem_singleton] at hp
   subst hp
   show Buf K e (n + m) (cs ++ xs) (E' bb).v (E' bb).T
   rw [hb]
   exact hB'
 ·show v' = (E' bb).v
  rw [hb]
 ·have hd2 : denP E' (((b, tX [bk]) :: sub.map (fun p => (p.1, gap))) ++ [(bb, tD (Buf K e (n + m) (cs ++ xs)))]) = bk :: T' := by
   rw [denP_app]
   show ([bk] ++ denP E' (sub.map fun p => (p.1, gap))) ++ ((E' bb).T ++ []) = _
   rw [denP_gaps, hb, List.append_nil, List.append_nil]
   rfl
  rw [hd2, hden]
  rw [hden] at T
  have T2 : There S w (Tb ++ (bk :: denP E sub)) := T.perm (by
   show (bk :: (Tb ++ denP E sub)).Perm _
   exact List.perm_middle.symm)
  have M := (Mem.start hL T2).step hT'
  have M2 : Mem S ⟨w, (Tb ++ (bk :: denP E sub)).map Blk.g⟩ (T' ++ [bk]) w' := M.drop (List.Sublist.append_left (List.Sublist.cons_cons _ (List.nil_sublist _)) _)
  refine M2.okT.perm ?_ ?_
  ·show (Tb ++ (bk :: denP E sub)).Perm (bk :: (Tb ++ denP E sub))
   exact List.perm_middle
  ·exact List.perm_append_comm
end Go.Proofs.YtbdgncndhnnjoaaGreatDoor

namespace Go.Proofs.YtbdgncndhnnjoaaGreatDoor
open Go.RowKit YtbdgncndhnnjoaaGreatDoor
set_option linter.unusedVariables false
set_option linter.unusedSimpArgs false
set_option maxHeartbeats 0
set_option maxRecDepth 100000
variable {C : World → Prop}
theorem ct_flatW {P : Program} {S : Seat P} {C : World → Prop} {f : FuncId} {xs : List SV} {args : List Value} {v : SV} {r : Value} {T0 T1 : List Blk} (h : ∀ w, S.laid w → There S w T0 → Calls P f args.toArray w fun e w' => e = .returned r ∧ OkT w w' T0 T1) (hx : ∀ E, xs.map (SV.den E) = args) (hv : ∀ E, v.den E = r)
  (he : (fun (args : Array Value) (w : World) => (callFunc f args).run P w) = fun args w => .ok (.enter f args) w := by kernel_rfl) : Ct S C f xs [] [tX T0] [tX T1] [] v := by
 have he : ∀ (args : Array Value) (w : World), (callFunc f args).run P w = .ok (.enter f args) w := fun args w => congrFun (congrFun he args) w
 refine ⟨fun E w hL hC T hok => ?_⟩
 show Fin P ((callFunc f (xs.map (SV.den E)).toArray).run P w) _
 rw [hx, he]
 have hd : denP E (ix 0 ([] ++ [tX T0])) = T0 := by
  show T0 ++ [] = T0
  rw [List.append_nil]
 rw [hd] at T
 refine (h w hL T).mono ?_
 rintro e w' ⟨rfl, hb⟩
 refine ⟨_, rfl, E, fun _ _ => rfl, fun p hp => ?_, (hv E).symm, ?_⟩
 ·simp [postC, ix] at hp
  subst hp
  trivial
 ·have e2 : denP E (postC [] [tX T0] [tX T1] []) = T1 := by
   show T1 ++ [] = T1
   rw [List.append_nil]
  rw [hd, e2]
  exact hb
abbrev pG (g : Nat) : Value := .pointer (some ⟨g, 0, none⟩)
abbrev bkO (g : Nat) (p s : Value) : Blk := ⟨g, .cells [p, s].toArray 87 (0, 0)⟩
def bldD (g : Nat) (t : ByteArray) (v : Value) (T : List Blk) : Prop := (t.size = 0 ∧ T = [bkO g (.pointer none) (.slice none 0 0)]) ∨ (0 < t.size ∧ ∃ sv Tb, T = bkO g (pG g) sv :: Tb ∧ Buf 1 5 t.size (byteCells t) sv Tb)
theorem c_copyU (g : Nat) (sv : Value) (Tb : List Blk) : Ct S0 C 79 [vV (pG g)] [tX (bkO g (pG g) sv :: Tb)] [] [] [] (vT []) :=
 ct_flatT (args := [pG g]) (fun w hL hT => by
  have hg := hT (bkO g (pG g) sv) (by simp)
  refine (Any.Builder_copyCheck_used { Ip.laye166 with } Ip.reqExtra.toX72 g w (by rw [cell_at hg]; rfl)).mono ?_
  rintro e w' ⟨rfl, rfl⟩
  exact ⟨rfl, Below.refl _ _⟩) (fun _ => rfl) (fun _ => rfl)
theorem c_copyF (g : Nat) (sv : Value) : Ct S0 C 79 [vV (pG g)] [] [tX [bkO g (.pointer none) sv]] [tX [bkO g (pG g) sv]] [] (vT []) :=
 ct_flatW (args := [pG g]) (fun w hL T => by
  have hg := T.at_ (bkO g (.pointer none) sv) (by simp)
  refine (Any.Builder_copyCheck_fresh { Ip.laye166 with } Ip.reqExtra.toX72 g w (by rw [cell_at hg]; rfl) (by simp [World.shape?, hg]; rfl) (free_at hg _)).mono ?_
  rintro e w' ⟨rfl, rfl⟩
  refine ⟨rfl, ?_⟩
  have := okT_blk (A := []) (B := []) (Z' := .cells [pG g, sv].toArray 87 (0, 0)) T (grw_setCells g [pG g] w 0) (by rw [heap_setCells g 87 _ w _ 0 hg]; rfl)
  exact this) (fun _ => rfl) (fun _ => rfl)
def dApS (b : Nat) (bk : Blk) (Tb : List Blk) (t : ByteArray) (sv : Value) (hB : Buf 1 5 t.size (byteCells t) sv Tb) (s : ByteArray) (hm : 0 < s.size) (hle : t.size + s.size ≤ 10000000) : Dr S0 C :=
 dSp fun bb => ⟨oBi .append [41, 9] 41 [false, false] [vV sv, vV (.string s)], [], [(b, tX (bk :: Tb))], [tX [bk]], [tD (Buf 1 5 (t.size + s.size) (byteCells t ++ byteCells s))], vW bb, fun _ _ =>
  ls_apX (K := 1) (zv := .int .u8 0) (t := 41) (by kernel_rfl) (infoK (b := 1) (by kernel_rfl) (by kernel_rfl) (by kernel_rfl) (by decide)) rfl false false b bb bk Tb t.size (byteCells t) sv hB (vV (.string s)) [] s.size (byteCells s) (fun E w _ => Src.ofString w (by kernel_rfl) s) hm hle⟩
def dApB (b b2 : Nat) (bk : Blk) (Tb : List Blk) (t : ByteArray) (sv : Value) (hB : Buf 1 5 t.size (byteCells t) sv Tb) (c : Int) (hle : t.size + 1 ≤ 10000000) : Dr S0 C :=
 dSp fun bb => ⟨oBi .append [41, 41] 41 [false, false] [vV sv, vS b2 0 1 1], [], [(b, tX (bk :: Tb)), (b2, tC [vV (.int .u8 c)] 5)], [tX [bk], gap], [tD (Buf 1 5 (t.size + 1) (byteCells t ++ [.int .u8 c]))], vW bb, fun _ _ =>
  ls_apX (K := 1) (zv := .int .u8 0) (t := 41) (by kernel_rfl) (infoK (b := 1) (by kernel_rfl) (by kernel_rfl) (by kernel_rfl) (by decide)) rfl false false b bb bk Tb t.size (byteCells t) sv hB (vS b2 0 1 1) [(b2, tC [vV (.int .u8 c)] 5)] 1 [.int .u8 c] (fun E w h => Src.ofSlice w (e' := 5) (by kernel_rfl) ⟨(E b2).g, 0, none⟩ 1 1 _ rfl (fun j u hu => by
   have hg := h ⟨(E b2).g, .cells #[.int .u8 c] 5 (0, 0)⟩ (by simp [denP, It.den, tC, SV.denC, SV.denA, vV])
   rw [show (⟨(E b2).g, 0, none⟩ : Addr).add j = ⟨(E b2).g, j, none⟩ by simp [Addr.add_lit], cell_at hg, ← hu]) (fun u hu => by
   simp only [List.mem_singleton] at hu
   subst hu
   rfl)) (by omega) hle⟩
theorem bytes_app (t s : ByteArray) : byteCells t ++ byteCells s = byteCells (t ++ s) := by
 unfold byteCells
 rw [show (t ++ s).data.toList = t.data.toList ++ s.data.toList by simp [ByteArray.data_append], List.map_append]
theorem bld_nil {t : ByteArray} (h : t.size = 0) : t = ⟨#[]⟩ := ByteArray.ext (Array.size_eq_zero_iff.1 h)
theorem c_ws (g : Nat) (t s : ByteArray) (hs : 0 < s.size) (hle : t.size + s.size ≤ 10000000) : Ct S0 C 43 [vV (pG g), vV (.string s)] [] [tD (bldD g t)] [gap] [tD (bldD g (t ++ s))] (vT [vV (.int .i64 s.size), vV .nilIface]) := by
 have hz : (t ++ s).size = t.size + s.size := ByteArray.size_append
 have hv2 : ∀ {v1 : Value} {T1 : List Blk}, Buf 1 5 (t ++ s).size (byteCells (t ++ s)) v1 T1 → ∃ g1 n1 cap, v1 = .slice (some ⟨g1, 0, none⟩) n1 cap := by
  intro v1 T1 hv1
  rcases hv1.2 with ⟨h0, -⟩ | ⟨g1, cap, Z, rfl, -⟩
  ·omega
  ·exact ⟨_, _, _, rfl⟩
 refine xIn Tryz.f43 fun E0 w0 hL hC hk => ?_
 refine xOpen (D := bldD g t) 0 fun v0 T0 hv => ?_
 rcases hv with ⟨h0, rfl⟩ | ⟨ht, sv, Tb, rfl, hB⟩
 ·have hB : Buf 1 5 t.size (byteCells t) (.slice none 0 0) [] := by
   rw [bld_nil h0]
   exact buf_nil 1 5
  refine xR 16 [(3, dC (c_copyF g (.slice none 0 0)) [0])] ?_
  refine xR 1 [(0, dLdX 41 0 [bkO g (pG g) (.slice none 0 0)] g 1 [pG g, .slice none 0 0] 87 (.slice none 0 0) (by simp) rfl)] ?_
  refine xR 2 [(1, dApS 0 (bkO g (pG g) (.slice none 0 0)) [] t (.slice none 0 0) hB s hs hle)] ?_
  refine xOpen (D := Buf 1 5 (t.size + s.size) (byteCells t ++ byteCells s)) 1 fun v1 T1 hv1 => ?_
  rw [bytes_app, ← hz] at hv1
  obtain ⟨g1, n1, cap, rfl⟩ := hv2 hv1
  refine xR 3 [(2, dStX 41 0 [] [] g 1 [pG g, .slice none 0 0] 87 (.slice (some ⟨g1, 0, none⟩) n1 cap) (by simp))] ?_
  refine xR 8 [] ?_
  refine xPk (vV (pG g)) [(0, tX [bkO g (pG g) (.slice (some ⟨g1, 0, none⟩) n1 cap)]), (1, tX T1)] (bldD g (t ++ s)) [] [] (fun E _ => ⟨rfl, .inr ⟨by omega, .slice (some ⟨g1, 0, none⟩) n1 cap, T1, ?_, hv1⟩⟩) ?_
  ·show [_] ++ (T1 ++ []) = _
   rw [List.append_nil]
   rfl
  exact (xRetC [2])
 ·refine xR 16 [(3, dC (c_copyU g sv Tb) [0])] ?_
  refine xR 1 [(0, dLdX 41 0 (bkO g (pG g) sv :: Tb) g 1 [pG g, sv] 87 sv (by simp) rfl)] ?_
  refine xR 2 [(1, dApS 0 (bkO g (pG g) sv) Tb t sv hB s hs hle)] ?_
  refine xOpen (D := Buf 1 5 (t.size + s.size) (byteCells t ++ byteCells s)) 1 fun v1 T1 hv1 => ?_
  rw [bytes_app, ← hz] at hv1
  obtain ⟨g1, n1, cap, rfl⟩ := hv2 hv1
  refine xR 3 [(2, dStX 41 0 [] [] g 1 [pG g, sv] 87 (.slice (some ⟨g1, 0, none⟩) n1 cap) (by simp))] ?_
  refine xR 8 [] ?_
  refine xPk (vV (pG g)) [(0, tX [bkO g (pG g) (.slice (some ⟨g1, 0, none⟩) n1 cap)]), (1, tX T1)] (bldD g (t ++ s)) [] [] (fun E _ => ⟨rfl, .inr ⟨by omega, .slice (some ⟨g1, 0, none⟩) n1 cap, T1, ?_, hv1⟩⟩) ?_
  ·show [_] ++ (T1 ++ []) = _
   rw [List.append_nil]
   rfl
  exact (xRetC [2])
abbrev lf : ByteArray := ⟨#[10]⟩
theorem c_wb (g : Nat) (t : ByteArray) (ht : 0 < t.size) (hle : t.size + 1 ≤ 10000000) : Ct S0 C 45 [vV (pG g), vV (.int .u8 10)] [] [tD (bldD g t)] [gap] [tD (bldD g (t ++ lf))] (vV .nilIface) := by
 have hz : (t ++ lf).size = t.size + 1 := ByteArray.size_append
 have hv2 : ∀ {v1 : Value} {T1 : List Blk}, Buf 1 5 (t ++ lf).size (byteCells (t ++ lf)) v1 T1 → ∃ g1 n1 cap, v1 = .slice (some ⟨g1, 0, none⟩) n1 cap := by
  intro v1 T1 hv1
  rcases hv1.2 with ⟨h0, -⟩ | ⟨g1, cap, Z, rfl, -⟩
  ·omega
  ·exact ⟨_, _, _, rfl⟩
 refine xIn Tryz.f45 fun E0 w0 hL hC hk => ?_
 refine xOpen (D := bldD g t) 0 fun v0 T0 hv => ?_
 rcases hv with ⟨h0, rfl⟩ | ⟨-, sv, Tb, rfl, hB⟩
 ·omega
 ·refine xR 15 [(2, dC (c_copyU g sv Tb) [0])] ?_
  refine xR 1 [(0, dLdX 41 0 (bkO g (pG g) sv :: Tb) g 1 [pG g, sv] 87 sv (by simp) rfl)] ?_
  refine xR 3 [(2, dApB 0 1 (bkO g (pG g) sv) Tb t sv hB 10 hle)] ?_
  refine xOpen (D := Buf 1 5 (t.size + 1) (byteCells t ++ [.int .u8 10])) 2 fun v1 T1 hv1 => ?_
  have hv1 : Buf 1 5 (t ++ lf).size (byteCells (t ++ lf)) v1 T1 := by
   rw [← bytes_app, hz]
   exact hv1
  obtain ⟨g1, n1, cap, rfl⟩ := hv2 hv1
  refine xR 3 [(2, dStX 41 0 [] [] g 1 [pG g, sv] 87 (.slice (some ⟨g1, 0, none⟩) n1 cap) (by simp))] ?_
  refine xR 4 [] ?_
  refine xPk (vV (pG g)) [(0, tX [bkO g (pG g) (.slice (some ⟨g1, 0, none⟩) n1 cap)]), (2, tX T1)] (bldD g (t ++ lf)) [] [] (fun E _ => ⟨rfl, .inr ⟨by omega, .slice (some ⟨g1, 0, none⟩) n1 cap, T1, ?_, hv1⟩⟩) ?_
  ·show [_] ++ (T1 ++ []) = _
   rw [List.append_nil]
   rfl
  refine xR 1 [] ?_
  exact (xRetC [3])
def dUD0 : Dr S0 C := dRd (oBi .unsafeSliceData [41] 131 [false] [vV (.slice none 0 0)]) (vV (.pointer none)) fun E w _ _ => rfl
def dUD (g n cap : Nat) (h : cap ≠ 0) : Dr S0 C := dRd (oBi .unsafeSliceData [41] 131 [false] [vV (.slice (some ⟨g, 0, none⟩) n cap)]) (vV (.pointer (some ⟨g, 0, none⟩))) fun E w _ _ => by
 show (do pure (Next.value (← Builtin.unsafeSliceData_ #[41] 131 #[.slice (some ⟨g, 0, none⟩) n cap])) : Sem Next).run Tryz.prog w = _
 simp only [Sem.run_bind, Lib.run_unsafeSliceData_row _ _ _ _ _ _ h, Result.andThen_ok, Sem.run_pure]
 rfl
def dUS0 : Dr S0 C := dRd (oBi .unsafeString [131, 3] 9 [false, false] [vV (.pointer none), vV (.int .i64 0)]) (vV (.string ⟨#[]⟩)) fun E w _ _ => by
 show (do pure (Next.value (← Builtin.unsafeString_ #[131, 3] 9 #[.pointer none, .int .i64 0])) : Sem Next).run Tryz.prog w = _
 simp only [Sem.run_bind, Lib.run_unsafeString_none, Result.andThen_ok, Sem.run_pure]
 rfl
theorem grw_freeze (w : World) (g n : Nat) : Grw w (w.freeze ⟨g, 0, none⟩ n) [g] := by
 unfold World.freeze
 split
 ·exact grw_refl _ _
 ·exact ⟨rfl, rfl, rfl, by simp, fun k hk hr => by
   simp only [Array.getElem?_modify]
   rw [if_neg (fun e => hr (by simp [e]))]⟩
def dUS (b : Nat) (bk : Blk) (g n cap : Nat) (Z : List Value) (t : ByteArray) (h0 : t.size ≠ 0) (hn : n = t.size) (hc : n ≤ cap) (hcm : n ≤ 10000000) (hZ : Z.length = cap) (hZt : Z.take n = byteCells t) : Dr S0 C :=
 dWrX (oBi .unsafeString [131, 3] 9 [false, false] [vV (.pointer (some ⟨g, 0, none⟩)), vV (.int .i64 (n : Int))]) b (bk :: [⟨g, .cells Z.toArray 5 (0, 0)⟩]) [bk] (vV (.string t)) fun E w hL T => by
  subst hn
  have hg : w.heap[g]? = some (.cells Z.toArray 5 (0, 0)) := T.at_ ⟨g, .cells Z.toArray 5 (0, 0)⟩ (by simp)
  have hr := Lib.run_unsafeString_row (P := Tryz.prog) w 131 3 9 5 (by kernel_rfl) (by kernel_rfl) g Z.length (by simp [World.shape?, hg]) t.data.toList (by
    intro h
    apply h0
    show t.data.size = 0
    rw [← Array.length_toList, h]
    rfl) (by rw [Array.length_toList]; show t.size ≤ _; omega) (by rw [Array.length_toList]; show t.size ≤ _; omega) (fun j x hj => by
   have hjl := (List.getElem?_eq_some_iff.1 hj).1
   rw [Array.length_toList] at hjl
   have hjl : j < t.size := hjl
   rw [show (⟨g, 0, none⟩ : Addr).add j = ⟨g, j, none⟩ by simp [Addr.add_lit], cell_at hg]
   have : Z[j]? = (byteCells t)[j]? := by rw [← hZt, List.getElem?_take_of_lt hjl]
   refine Eq.trans ?_ (this.trans ?_)
   ·rfl
   unfold byteCells
   rw [List.getElem?_map, hj]
   rfl)
  rw [Array.length_toList] at hr
  show Fin Tryz.prog ((do pure (Next.value (← Builtin.unsafeString_ #[131, 3] 9 #[.pointer (some ⟨g, 0, none⟩), .int .i64 (t.size : Int)])) : Sem Next).run Tryz.prog w) _
  have e : (do pure (Next.value (← Builtin.unsafeString_ #[131, 3] 9 #[.pointer (some ⟨g, 0, none⟩), .int .i64 (t.size : Int)])) : Sem Next).run Tryz.prog w = .ok (.value (.string t)) (w.freeze ⟨g, 0, none⟩ t.size) := by
   have hr2 : (Builtin.unsafeString_ #[131, 3] 9 #[.pointer (some ⟨g, 0, none⟩), .int .i64 (t.size : Int)]).run Tryz.prog w = .ok (.string t) (w.freeze ⟨g, 0, none⟩ t.size) := hr
   simp only [Sem.run_bind, hr2, Result.andThen_ok, Sem.run_pure]
  rw [e]
  have hne : bk.g ≠ g := by
   have := T.nodup
   simp at this
   exact this
  refine ⟨rfl, (grw_freeze w g t.size).sub (by simp), fun x hx => ?_, by simp, fun x hx => .inl (by simp at hx; simp [hx])⟩
  simp only [List.mem_singleton] at hx
  subst hx
  rw [(grw_freeze w g t.size).block _ (T.lt (by simp)) (by simpa using hne)]
  exact T.at_ _ (by simp)
theorem c_bs (g : Nat) (t : ByteArray) (hle : t.size ≤ 10000000) : Ct S0 C 48 [vV (pG g)] [] [tD (bldD g t)] [gap] [] (vV (.string t)) := by
 refine xIn Tryz.f48 fun E0 w0 hL hC hk => ?_
 refine xOpen (D := bldD g t) 0 fun v0 T0 hv => ?_
 rcases hv with ⟨h0, rfl⟩ | ⟨ht, sv, Tb, rfl, hB⟩
 ·obtain rfl := bld_nil h0
  refine xR 5 [] ?_
  refine xR 1 [(3, dLdX 41 0 [bkO g (.pointer none) (.slice none 0 0)] g 1 [.pointer none, .slice none 0 0] 87 (.slice none 0 0) (by simp) rfl), (4, dUD0), (8, dLdX 41 0 [bkO g (.pointer none) (.slice none 0 0)] g 1 [.pointer none, .slice none 0 0] 87 (.slice none 0 0) (by simp) rfl), (9, dLenV 41 3 none 0 0), (10, dUS0)] ?_
  refine xPk (vV (.bool true)) [(0, tX [bkO g (.pointer none) (.slice none 0 0)])] (fun _ _ => True) [] [] (fun _ _ => ⟨rfl, trivial⟩) ?_
  exact (xRetC [])
 ·rcases hB.2 with ⟨h0, -⟩ | ⟨g1, cap, Z, rfl, hc, hZ, hZt, rfl⟩
  ·omega
  ·rw [Nat.mul_one] at hZ hZt
   refine xR 5 [] ?_
   refine xR 1 [(3, dLdX 41 0 [bkO g (pG g) (.slice (some ⟨g1, 0, none⟩) t.size cap), ⟨g1, .cells Z.toArray 5 (0, 0)⟩] g 1 [pG g, .slice (some ⟨g1, 0, none⟩) t.size cap] 87 (.slice (some ⟨g1, 0, none⟩) t.size cap) (by simp) rfl), (4, dUD g1 t.size cap (by omega)), (8, dLdX 41 0 [bkO g (pG g) (.slice (some ⟨g1, 0, none⟩) t.size cap), ⟨g1, .cells Z.toArray 5 (0, 0)⟩] g 1 [pG g, .slice (some ⟨g1, 0, none⟩) t.size cap] 87 (.slice (some ⟨g1, 0, none⟩) t.size cap) (by simp) rfl), (9, dLenV 41 3 (some ⟨g1, 0, none⟩) t.size cap), (10, dUS 0 (bkO g (pG g) (.slice (some ⟨g1, 0, none⟩) t.size cap)) g1 t.size cap Z t (by omega) rfl hc hle (by omega) hZt)] ?_
   refine xPk (vV (.bool true)) [(0, tX [bkO g (pG g) (.slice (some ⟨g1, 0, none⟩) t.size cap)])] (fun _ _ => True) [] [] (fun _ _ => ⟨rfl, trivial⟩) ?_
   exact (xRetC [])
end Go.Proofs.YtbdgncndhnnjoaaGreatDoor

namespace Go.Proofs.YtbdgncndhnnjoaaGreatDoor
open Go.RowKit YtbdgncndhnnjoaaGreatDoor
set_option linter.unusedVariables false
set_option linter.unusedSimpArgs false
set_option maxHeartbeats 0
set_option maxRecDepth 100000
variable {C : World → Prop}
abbrev sp1 : ByteArray := ⟨#[32]⟩
theorem c_say (l : List ByteArray) (g : Nat) (t : ByteArray) (h0 : 0 < l.length) (hN : l.length ≤ 1000000) (hs : 0 < (Ip.jn l sp1).size) (hle : t.size + (Ip.jn l sp1).size + 1 ≤ 10000000) : Ct S0 C 42 [vW 0, vV (pG g)] [tD (RowD 1 9 strEl l)] [tD (bldD g t)] [gap] [tD (bldD g ((t ++ Ip.jn l sp1) ++ lf))] (vT []) := by
 have k1 := fun C => c_joinD (C := C) l sp1 h0 hN (by
  have : (Ip.jn l sp1).size = (Lib.join (l.map (·.data.toList)) sp1.data.toList).length := by
   show (Lib.join (l.map (·.data.toList)) sp1.data.toList).toArray.size = _
   rw [List.size_toArray]
  omega)
 generalize Ip.jn l sp1 = s at k1 hs hle
 have hz : (t ++ s).size = t.size + s.size := ByteArray.size_append
 have k2 := fun C => c_ws (C := C) g t s hs (by omega)
 have k3 := fun C => c_wb (C := C) g (t ++ s) (by omega) (by omega)
 refine xIn Tryz.f42 fun E0 w0 hL hC hk => ?_
 refine xR 9 [(1, dC (k1 _) [0]), (2, dC (k2 _) [1]), (3, dC (k3 _) [2])] ?_
 exact (xRetC [3])
theorem putCells_eq (l : List (List UInt8)) (Z : List Value) (h : l.length ≤ Z.length) : Go.Sort.putCells encStr 0 l.toArray Z.toArray = (l.map encStr ++ Z.drop l.length).toArray := by
 apply Array.ext_getElem?
 intro k
 simp only [Go.Sort.putCells, Array.getElem?_mapIdx, List.getElem?_toArray, Nat.zero_le, true_and, Nat.zero_add, Nat.sub_zero, List.size_toArray]
 by_cases hk : k < l.length
 ·rw [List.getElem?_append_left (by simpa using hk), List.getElem?_eq_getElem (by omega), List.getElem?_map, List.getElem?_eq_getElem hk]
  simp [hk]
 ·rw [List.getElem?_append_right (by simp; omega), List.getElem?_drop, List.length_map, show l.length + (k - l.length) = k by omega]
  simp only [if_neg hk]
  cases Z[k]? <;> rfl
theorem okT_sorted {P : Program} {S : Seat P} {w : World} {g : Nat} {Z : List Value} (T : There S w [⟨g, .cells Z.toArray 9 (0, 0)⟩]) (d : List (List UInt8)) (h : d.length ≤ Z.length) (n : Nat) (os : Array Obj) : OkT w (Go.Sort.grow (Go.Sort.putRow encStr (Go.Sort.ahead w n) g 0 d.toArray) os) [⟨g, .cells Z.toArray 9 (0, 0)⟩] [⟨g, .cells (d.map encStr ++ Z.drop d.length).toArray 9 (0, 0)⟩] := by
 have hg : w.heap[g]? = some (.cells Z.toArray 9 (0, 0)) := T.at_ ⟨g, .cells Z.toArray 9 (0, 0)⟩ (by simp)
 have hb := heap_sorted (n := n) (os := os) d.toArray hg
 rw [putCells_eq d Z h] at hb
 obtain ⟨h1, h2, h3, h4, h5⟩ := grownBy_sorted (w := w) (g := g) (n := n) (os := os) d.toArray
 refine ⟨⟨h1, h2, h3, h4, fun k hk hr => h5 k hk ?_⟩, fun b hb2 => ?_, by simp, fun b hb2 => .inl ?_⟩
 ·intro e
  apply hr
  simp at e
  simp [e]
 ·simp only [List.mem_singleton] at hb2
  subst hb2
  exact hb
 ·simp only [List.mem_singleton] at hb2
  subst hb2
  simp
theorem take_len {ss : List (List UInt8)} {Z : List Value} (hZ : Z.take ss.length = ss.map encStr) : ss.length ≤ Z.length := by
 have := congrArg List.length hZ
 simp at this
 omega
theorem c_sort (g cap : Nat) (Z : List Value) (ss : List (List UInt8)) (hN : ss.length ≤ 1000000) (hZ : Z.take ss.length = ss.map encStr) : Ct S0 C 76 [vV (.slice (some ⟨g, 0, none⟩) ss.length cap)] [] [tX [⟨g, .cells Z.toArray 9 (0, 0)⟩]] [tX [⟨g, .cells ((ss.mergeSort fun x y => decide (x ≤ y)).map encStr ++ Z.drop (ss.mergeSort fun x y => decide (x ≤ y)).length).toArray 9 (0, 0)⟩]] [] (vT []) :=
 ct_flatW (args := [.slice (some ⟨g, 0, none⟩) ss.length cap]) (fun w hL T => by
  have hg : w.heap[g]? = some (.cells Z.toArray 9 (0, 0)) := T.at_ ⟨g, .cells Z.toArray 9 (0, 0)⟩ (by simp)
  refine (Any.slices_Sort_string Ip.laye190 g 0 cap ss w (holds_of_block hg (by simpa using hZ)) (Array.getElem?_eq_some_iff.1 hg).1 (by omega)).mono ?_
  rintro e w' ⟨rfl, n, os, rfl⟩
  exact ⟨rfl, okT_sorted T _ (by rw [List.length_mergeSort]; exact take_len hZ) n os⟩) (fun _ => rfl) (fun _ => rfl)
theorem c_comp (g cap : Nat) (Z : List Value) (ss : List (List UInt8)) (hN : ss.length ≤ 1000000) (hc : ss.length ≤ cap) (hZ : Z.take ss.length = ss.map encStr) : Ct S0 C 77 [vV (.slice (some ⟨g, 0, none⟩) ss.length cap)] [] [tX [⟨g, .cells Z.toArray 9 (0, 0)⟩]] [tX [⟨g, .cells ((Lib.compactUpTo ss.toArray ss.toArray.size ++ List.replicate (ss.toArray.size - (Lib.compactUpTo ss.toArray ss.toArray.size).length) []).map encStr ++ Z.drop (Lib.compactUpTo ss.toArray ss.toArray.size ++ List.replicate (ss.toArray.size - (Lib.compactUpTo ss.toArray ss.toArray.size).length) []).length).toArray 9 (0, 0)⟩]] [] (vV (.slice (some ⟨g, 0, none⟩) (Lib.compact ss).length cap)) :=
 ct_flatW (args := [.slice (some ⟨g, 0, none⟩) ss.length cap]) (fun w hL T => by
  have hg : w.heap[g]? = some (.cells Z.toArray 9 (0, 0)) := T.at_ ⟨g, .cells Z.toArray 9 (0, 0)⟩ (by simp)
  have := Any.slices_Compact_string_arr Ip.laye194 g 0 cap ss.toArray w (holds_of_block hg (by simpa using hZ)) (by simp; omega) (by simpa using hc)
  rw [List.size_toArray] at this
  refine this.mono ?_
  rintro e w' ⟨rfl, q, rfl⟩
  refine ⟨rfl, ?_⟩
  rw [← Go.Sort.grow_empty (Go.Sort.putRow encStr (Go.Sort.ahead w q) g 0 _)]
  refine okT_sorted T _ ?_ q #[]
  have h1 := take_len hZ
  have h2 : (Lib.compactUpTo ss.toArray ss.toArray.size).length ≤ ss.length := by
   unfold Lib.compactUpTo
   rw [List.length_map]
   exact Nat.le_trans (List.length_filter_le _ _) (by simp)
  simp only [List.length_append, List.length_replicate, List.size_toArray] at h2 ⊢
  omega) (fun _ => rfl) (fun _ => rfl)
end Go.Proofs.YtbdgncndhnnjoaaGreatDoor

namespace Go.Proofs.YtbdgncndhnnjoaaGreatDoor
open Go.RowKit YtbdgncndhnnjoaaGreatDoor
set_option linter.unusedVariables false
set_option linter.unusedSimpArgs false
set_option maxHeartbeats 0
set_option maxRecDepth 100000
variable {C : World → Prop}
abbrev srt (ss : List (List UInt8)) : List (List UInt8) := ss.mergeSort fun x y => decide (x ≤ y)
theorem srt_pw (ss : List (List UInt8)) : (srt ss).Pairwise fun x y => x ≤ y := by
 have := List.pairwise_mergeSort (le := fun x y : List UInt8 => decide (x ≤ y)) (fun a b c h1 h2 => by simp only [decide_eq_true_eq] at *; exact List.le_trans h1 h2) (fun a b => by simp only [Bool.or_eq_true, decide_eq_true_eq]; exact List.le_total a b) ss
 exact this.imp fun h => by simpa using h
theorem cmp_len (zs : List (List UInt8)) : (Lib.compact zs).length = zs.length ↔ ∀ j, j < zs.length → Lib.keeps zs.toArray j = true := by
 unfold Lib.compact Lib.compactUpTo
 rw [List.length_map]
 have h : ((List.range zs.length).filter (Lib.keeps zs.toArray)).length = zs.length ↔ ((List.range zs.length).filter (Lib.keeps zs.toArray)).length = (List.range zs.length).length := by rw [List.length_range]
 rw [h, List.length_filter_eq_length_iff]
 simp only [List.mem_range]
theorem cmp_nodup (ss : List (List UInt8)) : (Lib.compact (srt ss)).length = ss.length ↔ ss.Nodup := by
 have hl : (srt ss).length = ss.length := List.length_mergeSort ss
 have hp : (srt ss).Perm ss := List.mergeSort_perm ss _
 rw [← hp.nodup_iff, ← hl, cmp_len]
 have hs := srt_pw ss
 generalize srt ss = zs at hs
 have e : ∀ i (h : i < zs.length), zs.toArray[i]! = zs[i] := fun i h => by simp [h]
 constructor
 ·intro h
  refine List.pairwise_iff_getElem.2 fun i j hi hj hij heq => ?_
  have h1 := h j hj
  unfold Lib.keeps at h1
  simp only [decide_eq_true_eq] at h1
  rcases h1 with h1 | h1
  ·omega
  ·apply h1
   rw [e j hj, e (j - 1) (by omega)]
   refine List.le_antisymm ?_ ?_
   ·rw [← heq]
    by_cases h2 : i = j - 1
    ·subst h2
     exact List.le_refl _
    ·exact List.pairwise_iff_getElem.1 hs i (j - 1) hi (by omega) (by omega)
   ·exact List.pairwise_iff_getElem.1 hs (j - 1) j (by omega) hj (by omega)
 ·intro h j hj
  unfold Lib.keeps
  simp only [decide_eq_true_eq]
  by_cases h0 : j = 0
  ·exact .inl h0
  ·refine .inr fun heq => ?_
   rw [e j hj, e (j - 1) (by omega)] at heq
   exact List.pairwise_iff_getElem.1 h (j - 1) j (by omega) hj (by omega) heq.symm
theorem cmp_str (l : List ByteArray) : (Lib.compact (srt (l.map (·.data.toList)))).length = l.length ↔ l.Nodup := by
 have := cmp_nodup (l.map (·.data.toList))
 rw [List.length_map] at this
 rw [this]
 constructor
 ·intro h
  exact List.Pairwise.imp (fun hab e => hab (by rw [e])) (List.pairwise_map.1 h)
 ·intro h
  exact List.pairwise_map.2 (List.Pairwise.imp (fun hab e => hab (ByteArray.ext (Array.toList_inj.1 e))) h)
theorem c_len64 : Ct S0 C 152 [vV (.int .u64 0)] [] [] [] [] (vV (.int .i64 0)) := by
 refine xIn Tryz.f152 fun E0 w0 hL hC hk => ?_
 refine xR 38 [] ?_
 exact (xRetC [])
theorem c_len0 : Ct S0 C 109 [vV (.int .u64 0)] [] [] [] [] (vV (.int .i64 0)) := by
 refine xIn Tryz.f109 fun E0 w0 hL hC hk => ?_
 refine xR 13 [(2, dC (c_len64) [])] ?_
 exact (xRetC [])
theorem c_ins0 (a : Option Addr) (cap : Nat) : Ct S0 C 142 [vV (.slice a 0 cap), vV (.int .i64 0), vV (.int .i64 0)] [] [] [] [] (vT []) := by
 refine xIn Tryz.f142 fun E0 w0 hL hC hk => ?_
 refine xR 7 [] ?_
 refine xUn 2 ?_
 refine xR 9 [] ?_
 exact (xRetC [])
theorem c_pdq0 (a : Option Addr) (cap : Nat) : Ct S0 C 108 [vV (.slice a 0 cap), vV (.int .i64 0), vV (.int .i64 0), vV (.int .i64 0)] [] [] [] [] (vT []) := by
 refine xIn Tryz.f108 fun E0 w0 hL hC hk => ?_
 refine xR 9 [] ?_
 refine xUn 2 ?_
 refine xR 22 [(9, dC (c_ins0 a cap) [])] ?_
 exact (xRetC [])
theorem c_sort0 (a : Option Addr) (cap : Nat) : Ct S0 C 76 [vV (.slice a 0 cap)] [] [] [] [] (vT []) := by
 refine xIn Tryz.f76 fun E0 w0 hL hC hk => ?_
 refine xR 14 [(7, dC (c_len0) []), (8, dC (c_pdq0 a cap) [])] ?_
 exact (xRetC [])
theorem c_comp0 (a : Option Addr) (cap : Nat) : Ct S0 C 77 [vV (.slice a 0 cap)] [] [] [] [] (vV (.slice a 0 cap)) := by
 refine xIn Tryz.f77 fun E0 w0 hL hC hk => ?_
 refine xR 17 [] ?_
 exact (xRetC [])
theorem c_nameN (nm : ByteArray) (v : Value) : Ct S0 C 36 [vG [vV (.string nm), vV v]] [] [] [] [] (vV (.string nm)) := by
 refine xIn Tryz.f36 fun E0 w0 hL hC hk => ?_
 refine xR 11 [] ?_
 exact (xRetC [])
theorem c_nameH (nm : ByteArray) (x : Net) : Ct S0 C 40 [vG [vV (.string nm), vV (.bool x.v6), vV (.int .u64 x.hi), vV (.int .u64 x.lo), vV (.int .u8 x.bits)]] [] [] [] [] (vV (.string nm)) := by
 refine xIn Tryz.f40 fun E0 w0 hL hC hk => ?_
 refine xR 11 [] ?_
 exact (xRetC [])
end Go.Proofs.YtbdgncndhnnjoaaGreatDoor

namespace Go.Proofs.YtbdgncndhnnjoaaGreatDoor
open Go.RowKit YtbdgncndhnnjoaaGreatDoor
set_option linter.unusedVariables false
set_option linter.unusedSimpArgs false
set_option maxHeartbeats 0
set_option maxRecDepth 100000
variable {C : World → Prop}
theorem row_open {l : List ByteArray} {v : Value} {T : List Blk} (h : RowD 1 9 strEl l v T) : (l = [] ∧ ∃ a, v = .slice a 0 0 ∧ T = []) ∨ ∃ (g cap : Nat) (Z : List Value), v = .slice (some ⟨g, 0, none⟩) l.length cap ∧ l.length ≤ cap ∧ T = [⟨g, .cells Z.toArray 9 (0, 0)⟩] ∧ Z.take (l.map (·.data.toList)).length = (l.map (·.data.toList)).map encStr := by
 obtain ⟨cs, Tb, Te, hB, hE, rfl⟩ := h
 obtain ⟨rfl, rfl⟩ := els_str hE
 rcases hB.2 with ⟨h0, ⟨a, rfl⟩, rfl⟩ | ⟨g, cap, Z, rfl, hc, hZ, hZt, rfl⟩
 ·exact .inl ⟨List.length_eq_zero_iff.1 h0, a, rfl, rfl⟩
 ·refine .inr ⟨g, cap, Z, rfl, hc, by simp, ?_⟩
  rw [Nat.mul_one] at hZt
  rw [List.length_map, hZt, List.map_map]
  exact List.map_congr_left fun x _ => rfl
theorem c_onceN (T : List Blk) (n : Nat) (nm : Nat → ByteArray) (bs : Nat → Option Addr × Nat) (ln : Nat → Nat) (v : Value) (h : Sl T 2 n (nF nm fun i => .slice (bs i).1 (ln i) (bs i).2) v) (hn : n < 400000) : Ct S0 C 35 [vV v, vF (.func 36) [] []] [tX T] [] [] [] (vV (.bool (decide (txL nm n).Nodup))) := by
 obtain ⟨base, cap, b0, o, rfl, H⟩ := h
 refine xIn Tryz.f35 fun E0 w0 hL hC hk => ?_
 refine xR 16 [] ?_
 refine xPk (vV (.slice none 0 0)) [] (RowD 1 9 strEl (txL nm 0)) [5] [] (fun _ _ => ⟨rfl, row_nil _ _ _⟩) ?_
 refine xLp (fun (x : Nat) => [(10, vV (.int .i64 (x : Int))), (5, vW 1)]) (fun x => [(1, tD (RowD 1 9 strEl (txL nm x)))]) [11, 12, 13, 7, 14, 15, 16, 17, 18, 19, 20] (fun x => x ≤ n) (fun x => n - x) 0 (Nat.zero_le _) fun x d hx g => ?_
 by_cases q1 : (x : Int) < (n : Int)
 ·have q1' : x < n := by omega
  have hl : (txL nm x).length < 500000 := by rw [txL_len]; omega
  have kp : ∀ C, Ct S0 C 36 [vG [vV (.string (nm x)), vV (.slice (bs x).1 (ln x) (bs x).2)]] [] [] [] [] (vV (.string (nm x))) := fun C => c_nameN (C := C) (nm x) (.slice (bs x).1 (ln x) (bs x).2)
  refine xR 30 [(0, dT q1), (1, dIxR 22 H cap x q1'), (2, dLdR 46 0 H x q1'), (8, dC (kp _) []), (10, dApp_strEl (txL nm x) 1 3 (nm x) hl), (12, dW ((↑x : Int) + 1) ((↑(x + 1) : Int)) (by omega) (by omega) (by omega))] ?_
  exact xNx g (x + 1) [11, 12, 13, 7, 14, 15, 16, 17, 18, 19, 20] [0, 4] (by omega) (by omega)
 ·obtain rfl : x = n := by omega
  refine xR 3 [(0, dF q1)] ?_
  refine xOpen (D := RowD 1 9 strEl (txL nm x)) 1 fun v0 T0 hv => ?_
  rcases row_open hv with ⟨h0, a, rfl, rfl⟩ | ⟨g1, cap1, Z, hv0, hc, rfl, hZ⟩
  ·obtain rfl : x = 0 := by rw [← txL_len nm x, h0]; rfl
   refine xR 19 [(1, dC (c_sort0 a 0) []), (3, dC (c_comp0 a 0) [])] ?_
   exact (xRetC [])
  ·have e0 : ((txL nm x).map (·.data.toList)).length = x := by rw [List.length_map, txL_len]
   have e1 : (srt ((txL nm x).map (·.data.toList))).length = x := by rw [List.length_mergeSort, e0]
   have e2 := cmp_str (txL nm x)
   rw [txL_len] at hv0 hc e2
   subst hv0
   have k1 := fun C => c_sort (C := C) g1 cap1 Z _ (by rw [e0]; omega) hZ
   have k2 := fun C => c_comp (C := C) g1 cap1 ((srt ((txL nm x).map (·.data.toList))).map encStr ++ Z.drop (srt ((txL nm x).map (·.data.toList))).length) (srt ((txL nm x).map (·.data.toList))) (by rw [e1]; omega) (by rw [e1]; omega) (by
    rw [List.take_append_of_le_length (by simp), List.take_of_length_le (by simp)])
   rw [e0] at k1
   rw [e1] at k2 k1
   generalize (Lib.compact (srt ((txL nm x).map (·.data.toList)))).length = m at k2 e2
   have e3 : decide ((m : Int) = (x : Int)) = decide (txL nm x).Nodup := decide_eq_decide.2 ⟨fun h => e2.1 (by omega), fun h => by rw [e2.2 h]⟩
   refine xR 19 [(1, dC (k1 _) [1]), (3, dC (k2 _) [1]), (7, dB (iEq ((↑m : Int)) ((↑x : Int))))] ?_
   exact xB (b' := (decide ((↑m : Int) = (↑x : Int)))) e3 (xRetC [])
theorem c_onceH (T : List Blk) (n : Nat) (nm : Nat → ByteArray) (nt : Nat → Net) (v : Value) (h : Sl T 5 n (hF nm nt) v) (hn : n < 400000) : Ct S0 C 39 [vV v, vF (.func 40) [] []] [tX T] [] [] [] (vV (.bool (decide (txL nm n).Nodup))) := by
 obtain ⟨base, cap, b0, o, rfl, H⟩ := h
 refine xIn Tryz.f39 fun E0 w0 hL hC hk => ?_
 refine xR 16 [] ?_
 refine xPk (vV (.slice none 0 0)) [] (RowD 1 9 strEl (txL nm 0)) [5] [] (fun _ _ => ⟨rfl, row_nil _ _ _⟩) ?_
 refine xLp (fun (x : Nat) => [(10, vV (.int .i64 (x : Int))), (5, vW 1)]) (fun x => [(1, tD (RowD 1 9 strEl (txL nm x)))]) [11, 12, 13, 7, 14, 15, 16, 17, 18, 19, 20] (fun x => x ≤ n) (fun x => n - x) 0 (Nat.zero_le _) fun x d hx g => ?_
 by_cases q1 : (x : Int) < (n : Int)
 ·have q1' : x < n := by omega
  have hl : (txL nm x).length < 500000 := by rw [txL_len]; omega
  have kp : ∀ C, Ct S0 C 40 [vG [vV (.string (nm x)), vV (.bool (nt x).v6), vV (.int .u64 (nt x).hi), vV (.int .u64 (nt x).lo), vV (.int .u8 (nt x).bits)]] [] [] [] [] (vV (.string (nm x))) := fun C => c_nameH (C := C) (nm x) (nt x)
  refine xR 30 [(0, dT q1), (1, dIxR 23 H cap x q1'), (2, dLdR 53 0 H x q1'), (8, dC (kp _) []), (10, dApp_strEl (txL nm x) 1 3 (nm x) hl), (12, dW ((↑x : Int) + 1) ((↑(x + 1) : Int)) (by omega) (by omega) (by omega))] ?_
  exact xNx g (x + 1) [11, 12, 13, 7, 14, 15, 16, 17, 18, 19, 20] [0, 4] (by omega) (by omega)
 ·obtain rfl : x = n := by omega
  refine xR 3 [(0, dF q1)] ?_
  refine xOpen (D := RowD 1 9 strEl (txL nm x)) 1 fun v0 T0 hv => ?_
  rcases row_open hv with ⟨h0, a, rfl, rfl⟩ | ⟨g1, cap1, Z, hv0, hc, rfl, hZ⟩
  ·obtain rfl : x = 0 := by rw [← txL_len nm x, h0]; rfl
   refine xR 19 [(1, dC (c_sort0 a 0) []), (3, dC (c_comp0 a 0) [])] ?_
   exact (xRetC [])
  ·have e0 : ((txL nm x).map (·.data.toList)).length = x := by rw [List.length_map, txL_len]
   have e1 : (srt ((txL nm x).map (·.data.toList))).length = x := by rw [List.length_mergeSort, e0]
   have e2 := cmp_str (txL nm x)
   rw [txL_len] at hv0 hc e2
   subst hv0
   have k1 := fun C => c_sort (C := C) g1 cap1 Z _ (by rw [e0]; omega) hZ
   have k2 := fun C => c_comp (C := C) g1 cap1 ((srt ((txL nm x).map (·.data.toList))).map encStr ++ Z.drop (srt ((txL nm x).map (·.data.toList))).length) (srt ((txL nm x).map (·.data.toList))) (by rw [e1]; omega) (by rw [e1]; omega) (by
    rw [List.take_append_of_le_length (by simp), List.take_of_length_le (by simp)])
   rw [e0] at k1
   rw [e1] at k2 k1
   generalize (Lib.compact (srt ((txL nm x).map (·.data.toList)))).length = m at k2 e2
   have e3 : decide ((m : Int) = (x : Int)) = decide (txL nm x).Nodup := decide_eq_decide.2 ⟨fun h => e2.1 (by omega), fun h => by rw [e2.2 h]⟩
   refine xR 19 [(1, dC (k1 _) [1]), (3, dC (k2 _) [1]), (7, dB (iEq ((↑m : Int)) ((↑x : Int))))] ?_
   exact xB (b' := (decide ((↑m : Int) = (↑x : Int)))) e3 (xRetC [])
end Go.Proofs.YtbdgncndhnnjoaaGreatDoor

namespace Go.Proofs.YtbdgncndhnnjoaaGreatDoor
open Go.RowKit YtbdgncndhnnjoaaGreatDoor
set_option linter.unusedVariables false
set_option linter.unusedSimpArgs false
set_option maxHeartbeats 0
set_option maxRecDepth 100000
variable {C : World → Prop}
theorem allN_le {lo n : Nat} {p : Nat → Bool} (h : allN lo n p = true) : n ≤ 64 := by
 unfold allN at h
 simp only [Bool.and_eq_true, decide_eq_true_eq] at h
 exact h.2.1
structure NmM (T : List Blk) where
 y : Option Addr × Nat
 n : Nat
 m : Nat → ByteArray
 b : Nat → Option Addr × Nat
 l : Nat → Nat
 w : Nat → Nat → ByteArray
 h : Sl T 2 n (nF m fun i => .slice (b i).1 (l i) (b i).2) (slc y n)
 s : ∀ i, i < n → Sl T 1 (l i) (fun j _ => .string (w i j)) (.slice (b i).1 (l i) (b i).2)
 k : n < 1000000
def NmM.may {T : List Blk} (x : NmM T) : Bool := allN 0 x.n fun i => (labF (x.m i) && allN 1 (x.l i) fun j => labF (x.w i j))
structure PoM (T : List Blk) where
 g : NmM T
 t : NmM T
 hy : Option Addr × Nat
 hn : Nat
 hm : Nat → ByteArray
 ht : Nat → Net
 hh : Sl T 5 hn (hF hm ht) (slc hy hn)
 hb : ∀ i, i < hn → 0 ≤ (ht i).bits ∧ (ht i).bits ≤ 255
 hk : hn < 1000000
 ay : Option Addr × Nat
 an : Nat
 a : Nat → AcM T
 ah : Sl T 4 an (acN a) (slc ay an)
def PoM.tl {T : List Blk} (p : PoM T) : Tl T (slc p.g.y p.g.n) (slc p.t.y p.t.n) (slc p.hy p.hn) := ⟨p.g.n, p.t.n, p.hn, p.g.m, p.t.m, p.hm, _, _, p.ht, p.g.h, p.t.h, p.hh, p.g.k, p.t.k, p.hk⟩
def PoM.may {T : List Blk} (p : PoM T) : Bool :=
 p.g.may && (decide (txL p.g.m p.g.n).Nodup && (p.t.may && (decide (txL p.t.m p.t.n).Nodup && (allN 0 p.hn (fun i => (labF (p.hm i) && Ip.mP (p.ht i).v6 (p.ht i).hi (p.ht i).lo (p.ht i).bits)) && (decide (txL p.hm p.hn).Nodup && allN 0 p.an fun i => acmB p.tl (p.a i))))))
abbrev PoM.vs {T : List Blk} (p : PoM T) : List SV := [vV (slc p.g.y p.g.n), vV (slc p.t.y p.t.n), vV (slc p.hy p.hn), vV (slc p.ay p.an)]
theorem c_mayBe (T : List Blk) (p : PoM T) : Ct S0 C 17 [vG p.vs] [tX T] [] [] [] (vV (.bool p.may)) := by
 have k1 := fun C => c_allN (C := C) T p.g.n p.g.m p.g.b _ p.g.l p.g.w 0 p.g.h p.g.s
 have k2 := fun (h : p.g.n < 400000) C => c_onceN (C := C) T p.g.n p.g.m p.g.b p.g.l _ p.g.h h
 have k3 := fun C => c_allN (C := C) T p.t.n p.t.m p.t.b _ p.t.l p.t.w 0 p.t.h p.t.s
 have k4 := fun (h : p.t.n < 400000) C => c_onceN (C := C) T p.t.n p.t.m p.t.b p.t.l _ p.t.h h
 have k5 := fun C => c_allH (C := C) T p.hn p.hm p.ht _ 0 p.hh p.hb
 have k6 := fun (h : p.hn < 400000) C => c_onceH (C := C) T p.hn p.hm p.ht _ p.hh h
 have k7 := fun C => c_allA (C := C) T p.g.y p.t.y p.hy p.ay p.g.n p.t.n p.hn p.an p.tl p.an p.a _ 0 p.ah
 have j1 := fun (h : p.g.may = true) => (show p.g.n < 400000 from Nat.lt_of_le_of_lt (allN_le h) (by decide))
 have j3 := fun (h : p.t.may = true) => (show p.t.n < 400000 from Nat.lt_of_le_of_lt (allN_le h) (by decide))
 have j5 := fun (h : allN 0 p.hn (fun i => (labF (p.hm i) && Ip.mP (p.ht i).v6 (p.ht i).hi (p.ht i).lo (p.ht i).bits)) = true) => (show p.hn < 400000 from Nat.lt_of_le_of_lt (allN_le h) (by decide))
 unfold PoM.may
 change ∀ C, Ct S0 C 33 _ _ _ _ _ (vV (.bool p.g.may)) at k1
 change ∀ C, Ct S0 C 33 _ _ _ _ _ (vV (.bool p.t.may)) at k3
 generalize p.g.may = r1 at k1 j1 ⊢
 generalize decide (txL p.g.m p.g.n).Nodup = r2 at k2 ⊢
 generalize p.t.may = r3 at k3 j3 ⊢
 generalize decide (txL p.t.m p.t.n).Nodup = r4 at k4 ⊢
 generalize allN 0 p.hn (fun i => (labF (p.hm i) && Ip.mP (p.ht i).v6 (p.ht i).hi (p.ht i).lo (p.ht i).bits)) = r5 at k5 j5 ⊢
 generalize decide (txL p.hm p.hn).Nodup = r6 at k6 ⊢
 generalize allN 0 p.an (fun i => acmB p.tl (p.a i)) = r7 at k7 ⊢
 cases r1
 ·rw [Bool.false_and]
  refine xIn Tryz.f17 fun E0 w0 hL hC hk => ?_
  refine xR 48 [(6, dC (k1 _) [0])] ?_
  exact (xRetC [])
 ·rw [Bool.true_and]
  specialize k2 (j1 rfl)
  cases r2
  ·rw [Bool.false_and]
   refine xIn Tryz.f17 fun E0 w0 hL hC hk => ?_
   refine xR 48 [(6, dC (k1 _) [0]), (10, dC (k2 _) [0])] ?_
   exact (xRetC [])
  ·rw [Bool.true_and]
   cases r3
   ·rw [Bool.false_and]
    refine xIn Tryz.f17 fun E0 w0 hL hC hk => ?_
    refine xR 48 [(6, dC (k1 _) [0]), (10, dC (k2 _) [0]), (15, dC (k3 _) [0])] ?_
    exact (xRetC [])
   ·rw [Bool.true_and]
    specialize k4 (j3 rfl)
    cases r4
    ·rw [Bool.false_and]
     refine xIn Tryz.f17 fun E0 w0 hL hC hk => ?_
     refine xR 48 [(6, dC (k1 _) [0]), (10, dC (k2 _) [0]), (15, dC (k3 _) [0]), (20, dC (k4 _) [0])] ?_
     exact (xRetC [])
    ·rw [Bool.true_and]
     cases r5
     ·rw [Bool.false_and]
      refine xIn Tryz.f17 fun E0 w0 hL hC hk => ?_
      refine xR 48 [(6, dC (k1 _) [0]), (10, dC (k2 _) [0]), (15, dC (k3 _) [0]), (20, dC (k4 _) [0]), (25, dC (k5 _) [0])] ?_
      exact (xRetC [])
     ·rw [Bool.true_and]
      specialize k6 (j5 rfl)
      cases r6
      ·rw [Bool.false_and]
       refine xIn Tryz.f17 fun E0 w0 hL hC hk => ?_
       refine xR 48 [(6, dC (k1 _) [0]), (10, dC (k2 _) [0]), (15, dC (k3 _) [0]), (20, dC (k4 _) [0]), (25, dC (k5 _) [0]), (30, dC (k6 _) [0])] ?_
       exact (xRetC [])
      ·rw [Bool.true_and]
       refine xIn Tryz.f17 fun E0 w0 hL hC hk => ?_
       refine xR 48 [(6, dC (k1 _) [0]), (10, dC (k2 _) [0]), (15, dC (k3 _) [0]), (20, dC (k4 _) [0]), (25, dC (k5 _) [0]), (30, dC (k6 _) [0]), (36, dC (k7 _) [0, 1])] ?_
       exact (xRetC [])
end Go.Proofs.YtbdgncndhnnjoaaGreatDoor

namespace Go.Proofs.YtbdgncndhnnjoaaGreatDoor
open Go.RowKit YtbdgncndhnnjoaaGreatDoor
set_option linter.unusedVariables false
set_option linter.unusedSimpArgs false
set_option maxHeartbeats 0
set_option maxRecDepth 100000
variable {C : World → Prop}
theorem txL_get (f : Nat → ByteArray) : ∀ (n j : Nat), j < n → (txL f n)[j]? = some (f j)
 | n + 1, j, h => by
  rw [txL]
  by_cases h2 : j < n
  ·rw [List.getElem?_append_left (by rw [txL_len]; exact h2)]
   exact txL_get f n j h2
  ·obtain rfl : j = n := by omega
   rw [List.getElem?_append_right (by rw [txL_len]; exact Nat.le_refl _), txL_len, Nat.sub_self]
   rfl
theorem slo_src {T : List Blk} {n : Nat} {f : Nat → ByteArray} {base : Option Addr} {cap b0 o : Nat} (H : SlO T 1 n (fun j _ => .string (f j)) base b0 o) (h0 : 0 < n) {w : World} (hT : ∀ b ∈ T, w.heap[b.g]? = some b.Z) : Src Tryz.prog 1 44 (.slice base n cap) n ((txL f n).map Value.string) w := by
 obtain ⟨rfl, Z, e, fr, hm, hz⟩ := H h0
 refine Src.ofSlice w (e' := 9) (by kernel_rfl) ⟨b0, o, none⟩ n cap _ (by simp [txL_len]) (fun j u hu => ?_) (fun u hu => ?_)
 ·have hj : j < n := by
   have := (List.getElem?_eq_some_iff.1 hu).1
   simpa [txL_len] using this
  rw [List.getElem?_map, txL_get f n j hj] at hu
  cases hu
  have hg := hT _ hm
  rw [show (⟨b0, o, none⟩ : Addr).add j = ⟨b0, o + j, none⟩ by simp [Addr.add_lit], cell_atR hg]
  have := hz j 0 hj (by omega)
  rwa [Nat.mul_one, Nat.add_zero] at this
 ·obtain ⟨s, -, rfl⟩ := List.mem_map.1 hu
  rfl
theorem els_of (l : List ByteArray) : Els strEl 1 l (l.map Value.string) [] := by
 induction l with
 | nil => exact ⟨rfl, rfl⟩
 | cons x l ih => exact ⟨[.string x], _, [], [], rfl, rfl, rfl, ⟨rfl, rfl⟩, ih⟩
theorem ls_apM {S : Seat Tryz.prog} {b b1 b2 : Nat} {l : List ByteArray} {T : List Blk} {n : Nat} {f : Nat → ByteArray} {base : Option Addr} {cap b0 o : Nat} (H : SlO T 1 n (fun j _ => .string (f j)) base b0 o) (h0 : 0 < n) (hle : l.length + n ≤ 1000000) :
  LS S C (oBi .append [44, 44] 44 [false, false] [vW b1, vV (.slice base n cap)]).sem [(b2, tX T), (b1, tD (RowD 1 9 strEl l))] (newAt b 1) (vW b) ([(b2, tX T), (b1, gap)] ++ [(b, tD (RowD 1 9 strEl (l ++ txL f n)))]) := by
 intro E w hL hC Th hok
 have ho1 : RowD 1 9 strEl l (E b1).v (E b1).T := hok (b1, tD (RowD 1 9 strEl l)) (by simp)
 obtain ⟨cs, Tb, Te, hB, hE, hT⟩ := ho1
 obtain ⟨hcs, hTe⟩ := els_str hE
 subst hTe
 rw [List.append_nil] at hT
 have hden : denP E [(b2, tX T), (b1, tD (RowD 1 9 strEl l))] = T ++ Tb := by
  show T ++ ((E b1).T ++ []) = _
  rw [hT, List.append_nil]
 rw [hden] at Th ⊢
 obtain ⟨v', T', w', hr, hB', hT'⟩ := buf_appX (ty := 44) (t := 44) (zv := .string ⟨#[]⟩) (by kernel_rfl) (infoK (P := Tryz.prog) (b := 16) (by kernel_rfl) (by kernel_rfl) (by kernel_rfl) (by decide)) rfl hB (fun z hz => Th.at_ z (by simp [hz])) (slo_src (cap := cap) H h0 (w := w) fun z hz => Th.at_ z (by simp [hz])) h0 (by omega)
 have hrun : ((oBi .append [44, 44] 44 [false, false] [vW b1, vV (.slice base n cap)]).sem E).run Tryz.prog w = .ok (.value v') w' := by
  show (do pure (Next.value (← Builtin.append_ #[44, 44] 44 #[(E b1).v, .slice base n cap])) : Sem Next).run Tryz.prog w = _
  simp only [Sem.run_bind, hr, Result.andThen_ok, Sem.run_pure]
 rw [hrun]
 let E' : Nat → Ent := fun i => bif Nat.beq i b then ⟨0, v', T', buf_one hB'⟩ else E i
 have hb : E' b = ⟨0, v', T', buf_one hB'⟩ := by
  have : Nat.beq b b = true := nbeq.2 rfl
  simp only [E', this, cond_true]
 refine ⟨E', fun i hi => ?_, ?_, ?_, ?_⟩
 ·have : Nat.beq i b = false := by
   cases h : Nat.beq i b with
   | false => rfl
   | true =>
    have h2 : newAt b 1 b = true := by simp [newAt, Nat.blt_eq]
    rw [nbeq.1 h, h2] at hi
    cases hi
  simp only [E', this, cond_false]
 ·intro p hp
  simp only [List.cons_append, List.nil_append, List.mem_cons, List.mem_nil_iff, or_false] at hp
  rcases hp with rfl | rfl | rfl
  ·exact trivial
  ·exact trivial
  ·show RowD 1 9 strEl (l ++ txL f n) (E' b).v (E' b).T
   rw [hb]
   refine ⟨_, T', [], by rw [List.length_append, txL_len]; exact hB', ?_, by rw [List.append_nil]⟩
   rw [hcs, ← List.map_append]
   exact els_of _
 ·show v' = (E' b).v
  rw [hb]
 ·have hd2 : denP E' ([(b2, tX T), (b1, gap)] ++ [(b, tD (RowD 1 9 strEl (l ++ txL f n)))]) = T ++ T' := by
   show T ++ ([] ++ ((E' b).T ++ [])) = _
   rw [hb, List.append_nil]
   rfl
  rw [hd2]
  have T2 : There S w (Tb ++ T) := Th.perm List.perm_append_comm
  have M := (Mem.start hL T2).step hT'
  exact M.okT.perm List.perm_append_comm List.perm_append_comm
def dAppM (l : List ByteArray) {T : List Blk} {n : Nat} {f : Nat → ByteArray} {base : Option Addr} {b0 o : Nat} (H : SlO T 1 n (fun j _ => .string (f j)) base b0 o) (cap b1 b2 : Nat) (h0 : 0 < n) (hle : l.length + n ≤ 1000000) : Dr S0 C :=
 dSp fun b => ⟨oBi .append [44, 44] 44 [false, false] [vW b1, vV (.slice base n cap)], [(b2, tX T)], [(b1, tD (RowD 1 9 strEl l))], [gap], [tD (RowD 1 9 strEl (l ++ txL f n))], vW b, fun _ _ => ls_apM H h0 hle⟩
def catL (f : Nat → List ByteArray) : Nat → ByteArray → ByteArray
 | 0, t => t
 | k + 1, t => (catL f k t ++ Ip.jn (f k) sp1) ++ lf
theorem catL_size (f : Nat → List ByteArray) (k : Nat) (t : ByteArray) : (catL f (k + 1) t).size = (catL f k t).size + (Ip.jn (f k) sp1).size + 1 := by
 rw [catL, ByteArray.size_append, ByteArray.size_append]
 rfl
theorem catL_mono (f : Nat → List ByteArray) (t : ByteArray) {k n : Nat} (h : k ≤ n) : (catL f k t).size ≤ (catL f n t).size := by
 induction n with
 | zero => rw [Nat.le_zero.1 h]; exact Nat.le_refl _
 | succ n ih =>
  by_cases e : k = n + 1
  ·rw [e]; exact Nat.le_refl _
  ·have := ih (by omega)
   rw [catL_size]
   omega
theorem catL_step (f : Nat → List ByteArray) (t : ByteArray) {k n : Nat} (h : k < n) (hs : (catL f n t).size ≤ 10000000) : (catL f k t).size + (Ip.jn (f k) sp1).size + 1 ≤ 10000000 := by
 have := catL_mono f t h
 rw [catL_size] at this
 omega
end Go.Proofs.YtbdgncndhnnjoaaGreatDoor

namespace Go.Proofs.YtbdgncndhnnjoaaGreatDoor
open Go.RowKit YtbdgncndhnnjoaaGreatDoor
set_option linter.unusedVariables false
set_option linter.unusedSimpArgs false
set_option maxHeartbeats 0
set_option maxRecDepth 100000
variable {C : World → Prop}
abbrev wEq : ByteArray := ⟨#[61]⟩
def nmLn {T : List Blk} (x : NmM T) (lit : ByteArray) (i : Nat) : List ByteArray := [lit, x.m i, wEq] ++ txL (x.w i) (x.l i)
def hsLn {T : List Blk} (p : PoM T) (i : Nat) : List ByteArray := [wH, p.hm i, wEq, Ip.ptx (p.ht i).v6 (p.ht i).hi (p.ht i).lo (p.ht i).bits]
def PoM.t1 {T : List Blk} (p : PoM T) : ByteArray := catL (nmLn p.g wG) p.g.n ⟨#[]⟩
def PoM.t2 {T : List Blk} (p : PoM T) : ByteArray := catL (nmLn p.t wT) p.t.n p.t1
def PoM.t3 {T : List Blk} (p : PoM T) : ByteArray := catL (hsLn p) p.hn p.t2
def PoM.txt {T : List Blk} (p : PoM T) : ByteArray := catL (fun i => acW (p.a i)) p.an p.t3
theorem jn_pos {l : List ByteArray} {x : ByteArray} {r : List ByteArray} (h : l = x :: r) (hx : 0 < x.size) : 0 < (Ip.jn l sp1).size := by
 subst h
 have : (Ip.jn (x :: r) sp1).size = (Lib.join ((x :: r).map (·.data.toList)) sp1.data.toList).length := by
  show (Lib.join ((x :: r).map (·.data.toList)) sp1.data.toList).toArray.size = _
  rw [List.size_toArray]
 rw [this, List.map_cons, Lib.join_cons, List.length_append, Array.length_toList]
 have : 0 < x.data.size := hx
 omega
theorem acW_cons {T : List Blk} (a : AcM T) : ∃ r, acW a = wA :: r := by
 unfold acW acL
 split
 ·exact ⟨_, rfl⟩
 ·exact ⟨_, rfl⟩
theorem acW_len {T : List Blk} (a : AcM T) (h : acB a) : (acW a).length ≤ 1000000 := by
 obtain ⟨-, -, -, h1, h2, h3⟩ := h
 unfold acW acL
 split
 ·simp [txL_len]; omega
 ·simp [txL_len]; omega
theorem c_say4 (a b c e : ByteArray) (g : Nat) (t : ByteArray) (hs : 0 < (Ip.jn [a, b, c, e] sp1).size) (hle : t.size + (Ip.jn [a, b, c, e] sp1).size + 1 ≤ 10000000) : Ct S0 C 42 [vS 0 0 4 4, vV (pG g)] [] [tC [vV (.string a), vV (.string b), vV (.string c), vV (.string e)] 9, tD (bldD g t)] [gap, gap] [tD (bldD g ((t ++ Ip.jn [a, b, c, e] sp1) ++ lf))] (vT []) := by
 have k1 := fun C => c_joinD (C := C) [a, b, c, e] sp1 (by simp) (by simp) (by
  have : (Ip.jn [a, b, c, e] sp1).size = (Lib.join ([a, b, c, e].map (·.data.toList)) sp1.data.toList).length := by
   show (Lib.join ([a, b, c, e].map (·.data.toList)) sp1.data.toList).toArray.size = _
   rw [List.size_toArray]
  omega)
 obtain ⟨l, hl⟩ : ∃ l, l = [a, b, c, e] := ⟨_, rfl⟩
 have hD : ∀ (E : Nat → Ent), RowD 1 9 strEl l (.slice (some ⟨(E 0).g, 0, none⟩) 4 4) [⟨(E 0).g, .cells ([a, b, c, e].map Value.string).toArray 9 (0, 0)⟩] := fun E => by rw [hl]; exact row_str [a, b, c, e] (E 0).g (by simp)
 rw [← hl] at k1 hs hle ⊢
 generalize Ip.jn l sp1 = s at k1 hs hle ⊢
 have hz : (t ++ s).size = t.size + s.size := ByteArray.size_append
 have k2 := fun C => c_ws (C := C) g t s hs (by omega)
 have k3 := fun C => c_wb (C := C) g (t ++ s) (by omega) (by omega)
 refine xIn Tryz.f42 fun E0 w0 hL hC hk => ?_
 refine xPk (vS 0 0 4 4) [(0, tC [vV (.string a), vV (.string b), vV (.string c), vV (.string e)] 9)] (RowD 1 9 strEl l) [0] [] (fun E _ => ⟨rfl, hD E⟩) ?_
 refine xR 9 [(1, dC (k1 _) [2]), (2, dC (k2 _) [1]), (3, dC (k3 _) [3])] ?_
 exact (xRetC [4])
theorem sl_slO {T : List Blk} {K n : Nat} {F : Nat → Nat → Value} {b : Option Addr} {c : Nat} (h : Sl T K n F (.slice b n c)) : ∃ g o, SlO T K n F b g o := by
 obtain ⟨base, cap, g, o, e, H⟩ := h
 cases e
 exact ⟨g, o, H⟩
theorem c_textOf (T : List Blk) (p : PoM T) (hg : ∀ i, i < p.g.n → 0 < p.g.l i ∧ p.g.l i ≤ 900000) (ht : ∀ i, i < p.t.n → 0 < p.t.l i ∧ p.t.l i ≤ 900000) (ha : ∀ i, i < p.an → acB (p.a i)) (han : p.an < 1000000) (hs : p.txt.size ≤ 10000000) : Ct S0 C 18 [vG p.vs] [tX T] [] [] [] (vV (.string p.txt)) := by
 have s3 : p.t3.size ≤ 10000000 := Nat.le_trans (catL_mono (fun i => acW (p.a i)) p.t3 (Nat.zero_le p.an)) hs
 have s2 : p.t2.size ≤ 10000000 := Nat.le_trans (catL_mono (hsLn p) p.t2 (Nat.zero_le p.hn)) s3
 have s1 : p.t1.size ≤ 10000000 := Nat.le_trans (catL_mono (nmLn p.t wT) p.t1 (Nat.zero_le p.t.n)) s2
 obtain ⟨g1, o1, H1⟩ := sl_slO p.g.h
 obtain ⟨g2, o2, H2⟩ := sl_slO p.t.h
 obtain ⟨g3, o3, H3⟩ := sl_slO p.hh
 obtain ⟨g4, o4, H4⟩ := sl_slO p.ah
 have b1 := p.g.k
 have b2 := p.t.k
 have b3 := p.hk
 refine xIn Tryz.f18 fun E0 w0 hL hC hk => ?_
 refine xR 8 [] ?_
 refine xPk (vP 2 0) [(2, tC [vV (.pointer none), vV (.slice none 0 0)] 87)] (fun v T => ∃ g, v = pG g ∧ T = [bkO g (.pointer none) (.slice none 0 0)]) [3] [] (fun E _ => ⟨rfl, (E 2).g, rfl, rfl⟩) ?_
 refine xOpen (D := fun v T => ∃ g, v = pG g ∧ T = [bkO g (.pointer none) (.slice none 0 0)]) 3 fun v0 T0 hv => ?_
 obtain ⟨gb, rfl, rfl⟩ := hv
 refine xPk (vV (.bool true)) [(3, tX [bkO gb (.pointer none) (.slice none 0 0)])] (bldD gb ⟨#[]⟩) [] [] (fun E _ => ⟨rfl, .inl ⟨rfl, rfl⟩⟩) ?_
 refine xR 15 [] ?_
 refine xLp (fun (x : Nat) => [(17, vV (.int .i64 (x : Int)))]) (fun x => [(4, tD (bldD gb (catL (nmLn p.g wG) x ⟨#[]⟩)))]) [18, 19, 20, 6, 21, 22, 23, 24, 25, 26, 27, 28, 29] (fun x => x ≤ p.g.n) (fun x => p.g.n - x) 0 (Nat.zero_le _) fun x d hx g => ?_
 by_cases q1 : (x : Int) < (p.g.n : Int)
 ·have q1' : x < p.g.n := by omega
  obtain ⟨g5, o5, H5⟩ := sl_slO (p.g.s x q1')
  obtain ⟨hl1, hl2⟩ := hg x q1'
  have k1 := fun C => c_say (C := C) (nmLn p.g wG x) gb (catL (nmLn p.g wG) x ⟨#[]⟩) (by simp [nmLn]) (by simp [nmLn, txL_len]; omega) (jn_pos (x := wG) rfl (by decide)) (catL_step _ _ q1' s1)
  refine xR 17 [(0, dT q1), (1, dIxR 22 H1 p.g.y.2 x q1'), (2, dLdR 46 0 H1 x q1')] ?_
  refine xR 6 [] ?_
  refine xPk (vS 6 0 3 3) [(6, tC [vV (.string wG), vV (.string (p.g.m x)), vV (.string wEq)] 9)] (RowD 1 9 strEl [wG, p.g.m x, wEq]) [24] [] (fun E _ => ⟨rfl, row_str [wG, p.g.m x, wEq] (E 6).g (by simp)⟩) ?_
  refine xR 1 [(0, dAppM [wG, p.g.m x, wEq] H5 (p.g.b x).2 7 0 hl1 (by simp; omega))] ?_
  refine xR 7 [(0, dC (k1 _) [8, 4]), (1, dW ((↑x : Int) + 1) ((↑(x + 1) : Int)) (by omega) (by omega) (by omega))] ?_
  exact xNx g (x + 1) [18, 19, 20, 6, 21, 22, 23, 24, 25, 26, 27, 28, 29] [0, 1, 2, 3, 9] (by omega) (by omega)
 ·obtain rfl : x = p.g.n := by omega
  refine xR 16 [(0, dF q1)] ?_
  refine xLp (fun (x : Nat) => [(33, vV (.int .i64 (x : Int)))]) (fun x => [(4, tD (bldD gb (catL (nmLn p.t wT) x p.t1)))]) [34, 35, 36, 8, 37, 38, 39, 40, 41, 42, 43, 44, 45] (fun x => x ≤ p.t.n) (fun x => p.t.n - x) 0 (Nat.zero_le _) fun x d hx g => ?_
  by_cases q2 : (x : Int) < (p.t.n : Int)
  ·have q2' : x < p.t.n := by omega
   obtain ⟨g5, o5, H5⟩ := sl_slO (p.t.s x q2')
   obtain ⟨hl1, hl2⟩ := ht x q2'
   have k1 := fun C => c_say (C := C) (nmLn p.t wT x) gb (catL (nmLn p.t wT) x p.t1) (by simp [nmLn]) (by simp [nmLn, txL_len]; omega) (jn_pos (x := wT) rfl (by decide)) (catL_step _ _ q2' s2)
   refine xR 17 [(0, dT q2), (1, dIxR 22 H2 p.t.y.2 x q2'), (2, dLdR 46 0 H2 x q2')] ?_
   refine xR 6 [] ?_
   refine xPk (vS 6 0 3 3) [(6, tC [vV (.string wT), vV (.string (p.t.m x)), vV (.string wEq)] 9)] (RowD 1 9 strEl [wT, p.t.m x, wEq]) [40] [] (fun E _ => ⟨rfl, row_str [wT, p.t.m x, wEq] (E 6).g (by simp)⟩) ?_
   refine xR 1 [(0, dAppM [wT, p.t.m x, wEq] H5 (p.t.b x).2 7 0 hl1 (by simp; omega))] ?_
   refine xR 7 [(0, dC (k1 _) [8, 4]), (1, dW ((↑x : Int) + 1) ((↑(x + 1) : Int)) (by omega) (by omega) (by omega))] ?_
   exact xNx g (x + 1) [34, 35, 36, 8, 37, 38, 39, 40, 41, 42, 43, 44, 45] [0, 1, 2, 3, 9] (by omega) (by omega)
  ·obtain rfl : x = p.t.n := by omega
   refine xR 16 [(0, dF q2)] ?_
   refine xLp (fun (x : Nat) => [(49, vV (.int .i64 (x : Int)))]) (fun x => [(4, tD (bldD gb (catL (hsLn p) x p.t2)))]) [50, 51, 52, 10, 53, 54, 55, 56, 57, 58, 59, 60, 61] (fun x => x ≤ p.hn) (fun x => p.hn - x) 0 (Nat.zero_le _) fun x d hx g => ?_
   by_cases q3 : (x : Int) < (p.hn : Int)
   ·have q3' : x < p.hn := by omega
    have k2 := fun C => c_prefixText (C := C) (p.ht x) (p.hb x q3').1 (p.hb x q3').2
    have k1 := fun C => c_say4 (C := C) wH (p.hm x) wEq (Ip.ptx (p.ht x).v6 (p.ht x).hi (p.ht x).lo (p.ht x).bits) gb (catL (hsLn p) x p.t2) (jn_pos (x := wH) rfl (by decide)) (catL_step (hsLn p) _ q3' s3)
    refine xR 22 [(0, dT q3), (1, dIxR 23 H3 p.hy.2 x q3'), (2, dLdR 53 0 H3 x q3'), (10, dC (k2 _) []), (12, dC (k1 _) [6, 4]), (13, dW ((↑x : Int) + 1) ((↑(x + 1) : Int)) (by omega) (by omega) (by omega))] ?_
    exact xNx g (x + 1) [50, 51, 52, 10, 53, 54, 55, 56, 57, 58, 59, 60, 61] [0, 1, 2, 3, 7] (by omega) (by omega)
   ·obtain rfl : x = p.hn := by omega
    refine xR 16 [(0, dF q3)] ?_
    refine xLp (fun (x : Nat) => [(65, vV (.int .i64 (x : Int)))]) (fun x => [(4, tD (bldD gb (catL (fun i => acW (p.a i)) x p.t3)))]) [66, 67, 68, 12, 69, 70, 71, 72, 73] (fun x => x ≤ p.an) (fun x => p.an - x) 0 (Nat.zero_le _) fun x d hx g => ?_
    by_cases q4 : (x : Int) < (p.an : Int)
    ·have q4' : x < p.an := by omega
     have k2 := fun C => c_aclWords (C := C) T (p.a x) (ha x q4')
     obtain ⟨r, hr⟩ := acW_cons (p.a x)
     have hl : (acW (p.a x)).length ≤ 1000000 := acW_len (p.a x) (ha x q4')
     have k1 := fun C => c_say (C := C) (acW (p.a x)) gb (catL (fun i => acW (p.a i)) x p.t3) (by rw [hr]; simp) hl (jn_pos (x := wA) hr (by decide)) (catL_step (fun i => acW (p.a i)) _ q4' hs)
     refine xR 27 [(0, dT q4), (1, dIxR 24 H4 p.ay.2 x q4'), (2, dLdR 57 0 H4 x q4'), (7, dC (k2 _) [0]), (8, dC (k1 _) [6, 4]), (9, dW ((↑x : Int) + 1) ((↑(x + 1) : Int)) (by omega) (by omega) (by omega))] ?_
     exact xNx g (x + 1) [66, 67, 68, 12, 69, 70, 71, 72, 73] [0, 1, 2, 3, 7] (by omega) (by omega)
    ·obtain rfl : x = p.an := by omega
     have k3 : ∀ C, Ct S0 C 48 [vV (pG gb)] [] [tD (bldD gb (catL (fun i => acW (p.a i)) p.an p.t3))] [gap] [] (vV (.string p.txt)) := fun C => c_bs (C := C) gb p.txt hs
     refine xR 12 [(0, dF q4), (1, dC (k3 _) [4])] ?_
     exact (xRetC [])
end Go.Proofs.YtbdgncndhnnjoaaGreatDoor

namespace Go.Proofs.YtbdgncndhnnjoaaGreatDoor
open Go.RowKit YtbdgncndhnnjoaaGreatDoor
set_option linter.unusedVariables false
set_option linter.unusedSimpArgs false
set_option maxHeartbeats 0
set_option maxRecDepth 100000
variable {C : World → Prop}
theorem c_TextY (T : List Blk) (p : PoM T) (hm : p.may = true) (hg : ∀ i, i < p.g.n → 0 < p.g.l i ∧ p.g.l i ≤ 900000) (ht : ∀ i, i < p.t.n → 0 < p.t.l i ∧ p.t.l i ≤ 900000) (ha : ∀ i, i < p.an → acB (p.a i)) (han : p.an < 1000000) (hs : p.txt.size ≤ 10000000) : Ct S0 C 10 [vG p.vs] [tX T] [] [] [] (if p.txt.size > 8192 then vT [vV (.string ⟨#[]⟩), vV (.int .i64 4)] else vT [vV (.string p.txt), vV (.int .i64 0)]) := by
 have k1 := fun C => (c_mayBe (C := C) T p).rb hm
 have k2 := fun C => c_textOf (C := C) T p hg ht ha han hs
 generalize p.txt = t at k2 ⊢
 by_cases h : t.size > 8192
 ·rw [if_pos h]
  have q1 : (t.size : Int) > 8192 := by omega
  refine xIn Tryz.f10 fun E0 w0 hL hC hk => ?_
  refine xR 34 [(4, dC (k1 _) [0]), (7, dC (k2 _) [0]), (11, dT q1)] ?_
  exact (xRetC [])
 ·rw [if_neg h]
  have q1 : ¬ (t.size : Int) > 8192 := by omega
  refine xIn Tryz.f10 fun E0 w0 hL hC hk => ?_
  refine xR 36 [(4, dC (k1 _) [0]), (7, dC (k2 _) [0]), (11, dF q1)] ?_
  exact (xRetC [])
end Go.Proofs.YtbdgncndhnnjoaaGreatDoor

namespace Go.Proofs.YtbdgncndhnnjoaaGreatDoor
open Go.RowKit YtbdgncndhnnjoaaGreatDoor
set_option linter.unusedVariables false
set_option linter.unusedSimpArgs false
set_option maxHeartbeats 0
set_option maxRecDepth 100000
variable {C : World → Prop}
def selZ : Sel := ⟨0, ⟨#[]⟩, net0⟩
def aclZ : Acl := ⟨[], [], [], []⟩
theorem choose_b {n : Nat} {F : Nat → Value} {l : Nat → Nat} (h : ∀ i, i < n → ∃ base cap, F i = .slice base (l i) cap) : ∃ b : Nat → Option Addr × Nat, ∀ i, i < n → F i = .slice (b i).1 (l i) (b i).2 := by
 classical
 refine ⟨fun i => if hi : i < n then ((h i hi).choose, (h i hi).choose_spec.choose) else (none, 0), fun i hi => ?_⟩
 simp only [dif_pos hi]
 exact (h i hi).choose_spec.choose_spec
theorem get_D {α : Type} {l : List α} {d : α} {i : Nat} (h : i < l.length) : l[i]? = some (l.getD i d) := by
 rw [List.getD_eq_getElem?_getD, List.getElem?_eq_getElem h]
 rfl
theorem rowS {l : List ByteArray} {v : Value} {T T' : List Blk} (h : RowD 1 9 strEl l v T) (hs : ∀ b ∈ T, b ∈ T') : Sl T' 1 l.length (fun j _ => .string (Ip.tg l j)) v := by
 obtain ⟨base, cap, b0, o, e, -, H⟩ := row_slc h
 exact ⟨base, cap, b0, o, e, H.sub hs⟩
theorem nm_of {G : List Nam} {v : Value} {T T' : List Blk} (h : namD G v T) (hs : ∀ b ∈ T, b ∈ T') (hk : G.length < 1000000) : ∃ x : NmM T', v = slc x.y x.n ∧ x.n = G.length ∧ x.m = (fun i => (G.getD i nam0).name) ∧ x.l = (fun i => (G.getD i nam0).list.length) ∧ x.w = fun i => Ip.tg (G.getD i nam0).list := by
 obtain ⟨base, cap, e⟩ := h.len
 obtain ⟨F, h1, h2⟩ := h.sl
 have key : ∀ i, i < G.length → F i 0 = .string (G.getD i nam0).name ∧ ∃ Te, RowD 1 9 strEl (G.getD i nam0).list (F i 1) Te ∧ ∀ b ∈ Te, b ∈ T := fun i hi => by
  obtain ⟨cs, Te, ⟨u, rfl, hr⟩, -, h3, h4⟩ := h2 i _ (get_D (d := nam0) hi)
  exact ⟨h3 0 _ rfl, Te, by rw [h3 1 _ rfl]; exact hr, h4⟩
 obtain ⟨b, hb⟩ := choose_b (n := G.length) (F := fun i => F i 1) (l := fun i => (G.getD i nam0).list.length) fun i hi => by
  obtain ⟨-, Te, hr, -⟩ := key i hi
  exact hr.len
 subst e
 refine ⟨⟨(base, cap), G.length, fun i => (G.getD i nam0).name, b, fun i => (G.getD i nam0).list.length, fun i => Ip.tg (G.getD i nam0).list, (h1.sub hs).congr fun i j hi hj => ?_, fun i hi => ?_, hk⟩, rfl, rfl, rfl, rfl, rfl⟩
 ·match j, hj with
  | 0, _ => exact (key i hi).1
  | 1, _ => exact hb i hi
 ·obtain ⟨-, Te, hr, ht⟩ := key i hi
  rw [← hb i hi]
  exact rowS hr fun b hb => hs _ (ht b hb)
theorem rowU {l : List Int} {v : Value} {T T' : List Blk} (h : u8D l v T) (hs : ∀ b ∈ T, b ∈ T') : Sl T' 1 l.length (oneF fun i => l.getD i 0) v := by
 obtain ⟨F, h1, h2⟩ := h.sl
 refine (h1.sub hs).congr fun i j hi hj => ?_
 obtain ⟨cs, Te, ⟨rfl, -⟩, -, h3, -⟩ := h2 i _ (get_D (d := 0) hi)
 obtain rfl : j = 0 := by omega
 exact h3 0 _ rfl
theorem rowP {l : List (Int × Int)} {v : Value} {T T' : List Blk} (h : prtD l v T) (hs : ∀ b ∈ T, b ∈ T') : Sl T' 2 l.length (ptN (fun i => (l.getD i (0, 0)).1) fun i => (l.getD i (0, 0)).2) v := by
 obtain ⟨F, h1, h2⟩ := h.sl
 refine (h1.sub hs).congr fun i j hi hj => ?_
 obtain ⟨cs, Te, ⟨rfl, -⟩, -, h3, -⟩ := h2 i _ (get_D (d := (0, 0)) hi)
 match j, hj with
 | 0, _ => exact h3 0 _ rfl
 | 1, _ => exact h3 1 _ rfl
theorem rowL {l : List Sel} {v : Value} {T T' : List Blk} (h : selLD l v T) (hs : ∀ b ∈ T, b ∈ T') : Sl T' 6 l.length (slN fun i => l.getD i selZ) v := by
 obtain ⟨F, h1, h2⟩ := h.sl
 refine (h1.sub hs).congr fun i j hi hj => ?_
 obtain ⟨cs, Te, ⟨rfl, -⟩, -, h3, -⟩ := h2 i _ (get_D (d := selZ) hi)
 match j, hj with
 | 0, _ => exact h3 0 _ rfl
 | 1, _ => exact h3 1 _ rfl
 | 2, _ => exact h3 2 _ rfl
 | 3, _ => exact h3 3 _ rfl
 | 4, _ => exact h3 4 _ rfl
 | 5, _ => exact h3 5 _ rfl
structure AcEq {T : List Blk} (a : AcM T) (x : Acl) : Prop where
 h1 : a.pn = x.protos.length
 h2 : a.pf = fun i => x.protos.getD i 0
 h3 : a.sn = x.src.length
 h4 : a.sf = fun i => x.src.getD i selZ
 h5 : a.dn = x.dst.length
 h6 : a.df = fun i => x.dst.getD i selZ
 h7 : a.tn = x.ports.length
 h8 : a.ta = fun i => (x.ports.getD i (0, 0)).1
 h9 : a.te = fun i => (x.ports.getD i (0, 0)).2
def selKB (l : List Sel) : Bool := l.all fun s => decide (0 ≤ s.net.bits) && decide (s.net.bits ≤ 255)
theorem selKB_at {l : List Sel} (h : selKB l = true) {i : Nat} (hi : i < l.length) : 0 ≤ (l.getD i selZ).net.bits ∧ (l.getD i selZ).net.bits ≤ 255 := by
 have := List.all_eq_true.1 h (l.getD i selZ) (List.mem_iff_getElem?.2 ⟨i, get_D hi⟩)
 simpa using this
theorem ac_of {x : Acl} {c : List Value} {T T' : List Blk} (h : aclEl x c T) (hs : ∀ b ∈ T, b ∈ T') (hp : x.protos.length < 1000000) (h1 : selKB x.src = true) (h2 : selKB x.dst = true) : ∃ a : AcM T', c = [slc a.pb a.pn, slc a.sb a.sn, slc a.db a.dn, slc a.tb a.tn] ∧ AcEq a x := by
 obtain ⟨v1, v2, v3, v4, T1, T2, T3, T4, rfl, rfl, k1, k2, k3, k4⟩ := h
 obtain ⟨b1, c1, rfl⟩ := k1.len
 obtain ⟨b2, c2, rfl⟩ := k2.len
 obtain ⟨b3, c3, rfl⟩ := k3.len
 obtain ⟨b4, c4, rfl⟩ := k4.len
 exact ⟨⟨(b1, c1), x.protos.length, _, rowU k1 (fun b hb => hs b (by simp [hb])), hp, (b2, c2), x.src.length, _, rowL k2 (fun b hb => hs b (by simp [hb])), fun i hi => selKB_at h1 hi, (b3, c3), x.dst.length, _, rowL k3 (fun b hb => hs b (by simp [hb])), fun i hi => selKB_at h2 hi, (b4, c4), x.ports.length, _, _, rowP k4 (fun b hb => hs b (by simp [hb]))⟩, rfl, rfl, rfl, rfl, rfl, rfl, rfl, rfl, rfl, rfl⟩
end Go.Proofs.YtbdgncndhnnjoaaGreatDoor

namespace Go.Proofs.YtbdgncndhnnjoaaGreatDoor
open Go.RowKit YtbdgncndhnnjoaaGreatDoor
set_option linter.unusedVariables false
set_option linter.unusedSimpArgs false
set_option maxHeartbeats 0
set_option maxRecDepth 100000
variable {C : World → Prop}
theorem eqI53 (d : Nat) (s s' : ByteArray) (v v' : Bool) (h h' l l' b b' : Int) (w : World) : (Op.equalIn (d + 4) 53 (.agg #[.string s, .bool v, .int .u64 h, .int .u64 l, .int .u8 b]) (.agg #[.string s', .bool v', .int .u64 h', .int .u64 l', .int .u8 b'])).run Tryz.prog w = .ok (decide (s = s' ∧ v = v' ∧ h = h' ∧ l = l' ∧ b = b')) w := by
 rw [run_equalIn_struct w (d + 3) 53 _ _ (by kernel_rfl) (by kernel_rfl)]
 rw [Ip.eqF_all (d + 3) _ _ w _ [(9, 0, .string s, .string s', s.toList == s'.toList), (51, 1, .agg #[.bool v, .int .u64 h, .int .u64 l, .int .u8 b], .agg #[.bool v', .int .u64 h', .int .u64 l', .int .u8 b'], decide (v = v' ∧ h = h' ∧ l = l' ∧ b = b'))] (by kernel_rfl) (by
  intro e he
  simp only [List.mem_cons, List.mem_nil_iff, or_false] at he
  rcases he with rfl | rfl
  ·exact ⟨by kernel_rfl, by kernel_rfl, run_equalIn_string w (d + 2) 9 s s' Tryz.underlying9⟩
  ·exact ⟨by kernel_rfl, by kernel_rfl, Ip.eqI39 d v v' h h' l l' b b' w⟩)]
 simp [Bool.decide_and, Ip.dec_int, Ip.dec_str, Bool.and_assoc]
theorem eqI103 (d : Nat) (a b a' b' : Int) (w : World) : (Op.equalIn (d + 2) 103 (.agg #[.int .u16 a, .int .u16 b]) (.agg #[.int .u16 a', .int .u16 b'])).run Tryz.prog w = .ok (a == a' && b == b') w := by
 rw [run_equalIn_struct w (d + 1) 103 _ _ (by kernel_rfl) (by kernel_rfl)]
 rw [Ip.eqF_all (d + 1) _ _ w _ [(101, 0, .int .u16 a, .int .u16 a', a == a'), (101, 1, .int .u16 b, .int .u16 b', b == b')] (by kernel_rfl) (by
  intro z hz
  simp only [List.mem_cons, List.mem_nil_iff, or_false] at hz
  rcases hz with rfl | rfl
  ·exact ⟨by kernel_rfl, by kernel_rfl, run_equalIn_int w d 101 .u16 .u16 a a' (by kernel_rfl)⟩
  ·exact ⟨by kernel_rfl, by kernel_rfl, run_equalIn_int w d 101 .u16 .u16 b b' (by kernel_rfl)⟩)]
 simp
def dNe59 (x : Sel) : Dr S0 C := dRd (oOp 14 59 0 [] [vG [vV (.int .u8 x.kind), vV (.string x.name), vV (.bool x.net.v6), vV (.int .u64 x.net.hi), vV (.int .u64 x.net.lo), vV (.int .u8 x.net.bits)], vG [vV (.int .u8 x.kind), vV (.string x.name), vV (.bool x.net.v6), vV (.int .u64 x.net.hi), vV (.int .u64 x.net.lo), vV (.int .u8 x.net.bits)]]) (vV (.bool false)) fun E w _ _ => by
 have h := run_neS (r := true) (w := w) (t := 59) (P := Tryz.prog) (by kernel_rfl) (by have := eqI59 9996 x.kind x.kind x.name x.name x.net.v6 x.net.v6 x.net.hi x.net.hi x.net.lo x.net.lo x.net.bits x.net.bits w; simp at this; exact this)
 exact h
def dNe53 (s : ByteArray) (x : Net) : Dr S0 C := dRd (oOp 14 53 0 [] [vG [vV (.string s), vV (.bool x.v6), vV (.int .u64 x.hi), vV (.int .u64 x.lo), vV (.int .u8 x.bits)], vG [vV (.string s), vV (.bool x.v6), vV (.int .u64 x.hi), vV (.int .u64 x.lo), vV (.int .u8 x.bits)]]) (vV (.bool false)) fun E w _ _ => by
 have h := run_neS (r := true) (w := w) (t := 53) (P := Tryz.prog) (by kernel_rfl) (by have := eqI53 9996 s s x.v6 x.v6 x.hi x.hi x.lo x.lo x.bits x.bits w; simp at this; exact this)
 exact h
def dNe103 (a b : Int) : Dr S0 C := dRd (oOp 14 103 0 [] [vG [vV (.int .u16 a), vV (.int .u16 b)], vG [vV (.int .u16 a), vV (.int .u16 b)]]) (vV (.bool false)) fun E w _ _ => by
 have h := run_neS (r := true) (w := w) (t := 103) (P := Tryz.prog) (by kernel_rfl) (by have := eqI103 9998 a b a b w; simp at this; exact this)
 exact h
theorem c_sameN (T : List Blk) (a : ByteArray) (n : Nat) (nm : Nat → ByteArray) (v u : Value) (hv : Sl T 1 n (fun i _ => .string (nm i)) v) (hu : Sl T 1 n (fun i _ => .string (nm i)) u) (hn : n < 1000000) : Ct S0 C 24 [vG [vV (.string a), vV v], vG [vV (.string a), vV u]] [tX T] [] [] [] (vV (.bool true)) := by
 obtain ⟨base, cap, b0, o, rfl, H⟩ := hv
 obtain ⟨base2, cap2, b2, o2, rfl, H2⟩ := hu
 have h1 : ((n : Int) != (n : Int)) = false := by simp
 have h2 : a = a := rfl
 refine xIn Tryz.f24 fun E0 w0 hL hC hk => ?_
 refine xR 32 [(7, dB ((sNe a a).trans (DNF h2))), (15, dB h1)] ?_
 refine xLp (fun (x : Nat) => [(5, vV (.int .i64 (x : Int)))]) (fun x => []) [20, 21, 22, 23, 24, 27, 28, 29, 30, 31, 32, 33, 34, 35, 36, 37, 4, 25, 26] (fun x => x ≤ n) (fun x => n - x) 0 (Nat.zero_le _) fun x d hx g => ?_
 by_cases q1 : (x : Int) < (n : Int)
 ·have q1' : x < n := by omega
  have q2 : nm x = nm x := rfl
  refine xR 23 [(4, dT q1), (8, dIxR 44 H cap x q1'), (9, dLdR1 9 0 H x 0 (o + x * 1) q1'), (13, dIxR 44 H2 cap2 x q1'), (14, dLdR1 9 0 H2 x 0 (o2 + x * 1) q1'), (15, dB ((sNe (nm x) (nm x)).trans (DNF q2))), (17, dW ((↑x : Int) + 1) ((↑(x + 1) : Int)) (by omega) (by omega) (by omega))] ?_
  exact xNx g (x + 1) [20, 21, 22, 23, 24, 27, 28, 29, 30, 31, 32, 33, 34, 35, 36, 37, 4, 25, 26] [0, 1, 2] (by omega) (by omega)
 ·refine xR 15 [(4, dF q1)] ?_
  exact (xRetC [])
end Go.Proofs.YtbdgncndhnnjoaaGreatDoor

namespace Go.Proofs.YtbdgncndhnnjoaaGreatDoor
open Go.RowKit YtbdgncndhnnjoaaGreatDoor
set_option linter.unusedVariables false
set_option linter.unusedSimpArgs false
set_option maxHeartbeats 0
set_option maxRecDepth 100000
variable {C : World → Prop}
theorem c_sameA (T : List Blk) (n1 n2 n3 n4 : Nat) (f : Nat → Int) (s d : Nat → Sel) (ta te : Nat → Int) (v1 v2 v3 v4 u1 u2 u3 u4 : Value) (h1 : Sl T 1 n1 (oneF f) v1) (h2 : Sl T 6 n2 (slN s) v2) (h3 : Sl T 6 n3 (slN d) v3) (h4 : Sl T 2 n4 (ptN ta te) v4) (g1 : Sl T 1 n1 (oneF f) u1) (g2 : Sl T 6 n2 (slN s) u2) (g3 : Sl T 6 n3 (slN d) u3) (g4 : Sl T 2 n4 (ptN ta te) u4) (b1 : n1 < 1000000) (b2 : n2 < 1000000) (b3 : n3 < 1000000) (b4 : n4 < 1000000) : Ct S0 C 25 [vG [vV v1, vV v2, vV v3, vV v4], vG [vV u1, vV u2, vV u3, vV u4]] [tX T] [] [] [] (vV (.bool true)) := by
 obtain ⟨x1, c1, y1, o1, rfl, H1⟩ := h1
 obtain ⟨x2, c2, y2, o2, rfl, H2⟩ := h2
 obtain ⟨x3, c3, y3, o3, rfl, H3⟩ := h3
 obtain ⟨x4, c4, y4, o4, rfl, H4⟩ := h4
 obtain ⟨z1, k1, t1, p1, rfl, G1⟩ := g1
 obtain ⟨z2, k2, t2, p2, rfl, G2⟩ := g2
 obtain ⟨z3, k3, t3, p3, rfl, G3⟩ := g3
 obtain ⟨z4, k4, t4, p4, rfl, G4⟩ := g4
 have e1 : ((n1 : Int) != (n1 : Int)) = false := by simp
 have e2 : ((n2 : Int) != (n2 : Int)) = false := by simp
 have e3 : ((n3 : Int) != (n3 : Int)) = false := by simp
 have e4 : ((n4 : Int) != (n4 : Int)) = false := by simp
 refine xIn Tryz.f25 fun E0 w0 hL hC hk => ?_
 refine xR 52 [(9, dB e1), (17, dB e2), (26, dB e3), (35, dB e4)] ?_
 refine xLp (fun (x : Nat) => [(5, vV (.int .i64 (x : Int)))]) (fun x => []) [43, 44, 45, 46, 47, 50, 51, 52, 53, 54, 55, 56, 57, 58, 59, 60, 4, 48, 49] (fun x => x ≤ n1) (fun x => n1 - x) 0 (Nat.zero_le _) fun x d_ hx g => ?_
 by_cases q1 : (x : Int) < (n1 : Int)
 ·have q1' : x < n1 := by omega
  have q2 : (f x != f x) = false := by simp
  refine xR 23 [(4, dT q1), (8, dIxR 41 H1 c1 x q1'), (9, dLdR1 5 0 H1 x 0 (o1 + x * 1) q1'), (13, dIxR 41 G1 k1 x q1'), (14, dLdR1 5 0 G1 x 0 (p1 + x * 1) q1'), (15, dB q2), (17, dW ((↑x : Int) + 1) ((↑(x + 1) : Int)) (by omega) (by omega) (by omega))] ?_
  exact xNx g (x + 1) [43, 44, 45, 46, 47, 50, 51, 52, 53, 54, 55, 56, 57, 58, 59, 60, 4, 48, 49] [0, 1, 2] (by omega) (by omega)
 ·obtain rfl : x = n1 := by omega
  refine xR 17 [(4, dF q1)] ?_
  refine xLp (fun (x : Nat) => [(6, vV (.int .i64 (x : Int)))]) (fun x => []) [61, 62, 63, 64, 65, 68, 69, 70, 71, 72, 73, 74, 75, 76, 77, 78, 4, 66, 67] (fun x => x ≤ n2) (fun x => n2 - x) 0 (Nat.zero_le _) fun x d_ hx g => ?_
  by_cases q1 : (x : Int) < (n2 : Int)
  ·have q1' : x < n2 := by omega
   refine xR 23 [(4, dT q1), (8, dIxR 54 H2 c2 x q1'), (9, dLdR 59 0 H2 x q1'), (13, dIxR 54 G2 k2 x q1'), (14, dLdR 59 0 G2 x q1'), (15, dNe59 (s x)), (17, dW ((↑x : Int) + 1) ((↑(x + 1) : Int)) (by omega) (by omega) (by omega))] ?_
   exact xNx g (x + 1) [61, 62, 63, 64, 65, 68, 69, 70, 71, 72, 73, 74, 75, 76, 77, 78, 4, 66, 67] [0, 1, 2] (by omega) (by omega)
  ·obtain rfl : x = n2 := by omega
   refine xR 17 [(4, dF q1)] ?_
   refine xLp (fun (x : Nat) => [(7, vV (.int .i64 (x : Int)))]) (fun x => []) [79, 80, 81, 82, 83, 86, 87, 88, 89, 90, 91, 92, 93, 94, 95, 96, 4, 84, 85] (fun x => x ≤ n3) (fun x => n3 - x) 0 (Nat.zero_le _) fun x d_ hx g => ?_
   by_cases q1 : (x : Int) < (n3 : Int)
   ·have q1' : x < n3 := by omega
    refine xR 23 [(4, dT q1), (8, dIxR 54 H3 c3 x q1'), (9, dLdR 59 0 H3 x q1'), (13, dIxR 54 G3 k3 x q1'), (14, dLdR 59 0 G3 x q1'), (15, dNe59 (d x)), (17, dW ((↑x : Int) + 1) ((↑(x + 1) : Int)) (by omega) (by omega) (by omega))] ?_
    exact xNx g (x + 1) [79, 80, 81, 82, 83, 86, 87, 88, 89, 90, 91, 92, 93, 94, 95, 96, 4, 84, 85] [0, 1, 2] (by omega) (by omega)
   ·obtain rfl : x = n3 := by omega
    refine xR 17 [(4, dF q1)] ?_
    refine xLp (fun (x : Nat) => [(8, vV (.int .i64 (x : Int)))]) (fun x => []) [97, 98, 99, 100, 101, 104, 105, 106, 107, 108, 109, 110, 111, 112, 113, 114, 4, 102, 103] (fun x => x ≤ n4) (fun x => n4 - x) 0 (Nat.zero_le _) fun x d_ hx g => ?_
    by_cases q1 : (x : Int) < (n4 : Int)
    ·have q1' : x < n4 := by omega
     refine xR 23 [(4, dT q1), (8, dIxR 55 H4 c4 x q1'), (9, dLdR 103 0 H4 x q1'), (13, dIxR 55 G4 k4 x q1'), (14, dLdR 103 0 G4 x q1'), (15, dNe103 (ta x) (te x)), (17, dW ((↑x : Int) + 1) ((↑(x + 1) : Int)) (by omega) (by omega) (by omega))] ?_
     exact xNx g (x + 1) [97, 98, 99, 100, 101, 104, 105, 106, 107, 108, 109, 110, 111, 112, 113, 114, 4, 102, 103] [0, 1, 2] (by omega) (by omega)
    ·obtain rfl : x = n4 := by omega
     refine xR 15 [(4, dF q1)] ?_
     exact (xRetC [])
end Go.Proofs.YtbdgncndhnnjoaaGreatDoor

namespace Go.Proofs.YtbdgncndhnnjoaaGreatDoor
open Go.RowKit YtbdgncndhnnjoaaGreatDoor
set_option linter.unusedVariables false
set_option linter.unusedSimpArgs false
set_option maxHeartbeats 0
set_option maxRecDepth 100000
variable {C : World → Prop}
def selP (s : Sel) : Prop := (s.kind = 1 ∨ s.kind = 2 ∨ s.kind = 3 ∨ s.kind = 4 ∨ s.kind = 5 ∨ s.kind = 6) ∧ (0 ≤ s.net.bits ∧ s.net.bits ≤ 255) ∧ s.name.size ≤ 100000 ∧ (Ip.ptx s.net.v6 s.net.hi s.net.lo s.net.bits).size ≤ 100000
structure AcP (x : Acl) : Prop where
 s : ∀ s ∈ x.src, selP s
 d : ∀ s ∈ x.dst, selP s
 p : ∀ r ∈ x.ports, (0 ≤ r.1 ∧ r.1 < 65536) ∧ (0 ≤ r.2 ∧ r.2 < 65536)
 n1 : x.src.length ≤ 64
 n2 : x.dst.length ≤ 64
 n3 : x.ports.length ≤ 64
 np : x.protos.length < 1000000
structure PoP (G T : List Nam) (H : List Hst) (A : List Acl) : Prop where
 nG : G.length < 1000000
 nT : T.length < 1000000
 nH : H.length < 1000000
 nA : A.length < 1000000
 g : ∀ x ∈ G, 0 < x.list.length ∧ x.list.length ≤ 900000
 t : ∀ x ∈ T, 0 < x.list.length ∧ x.list.length ≤ 900000
 h : ∀ x ∈ H, 0 ≤ x.net.bits ∧ x.net.bits ≤ 255
 a : ∀ x ∈ A, AcP x
def tlL (G T : List Nam) (H : List Hst) (s : Sel) : Bool := if s.kind = 3 then (List.range G.length).any fun i => decide ((G.getD i nam0).name = s.name) else if s.kind = 4 then (List.range T.length).any fun i => decide ((T.getD i nam0).name = s.name) else if s.kind = 5 then (List.range H.length).any fun i => decide ((H.getD i hst0).name = s.name) else true
def acmL (G T : List Nam) (H : List Hst) (x : Acl) : Bool :=
 allN 0 x.protos.length (fun i => mpF (x.protos.getD i 0)) && (risF (fun i => x.protos.getD i 0) x.protos.length && (allN 1 x.src.length (fun i => maySelF (x.src.getD i selZ) && tlL G T H (x.src.getD i selZ)) && (allN 1 x.dst.length (fun i => maySelF (x.dst.getD i selZ) && tlL G T H (x.dst.getD i selZ)) && allN 0 x.ports.length fun i => decide ((x.ports.getD i (0, 0)).1 ≤ (x.ports.getD i (0, 0)).2))))
def nmMay (G : List Nam) : Bool := allN 0 G.length fun i => (labF (G.getD i nam0).name && allN 1 (G.getD i nam0).list.length fun j => labF (Ip.tg (G.getD i nam0).list j))
def mayL (G T : List Nam) (H : List Hst) (A : List Acl) : Bool :=
 nmMay G && (decide (txL (fun i => (G.getD i nam0).name) G.length).Nodup && (nmMay T && (decide (txL (fun i => (T.getD i nam0).name) T.length).Nodup && (allN 0 H.length (fun i => (labF (H.getD i hst0).name && Ip.mP (H.getD i hst0).net.v6 (H.getD i hst0).net.hi (H.getD i hst0).net.lo (H.getD i hst0).net.bits)) && (decide (txL (fun i => (H.getD i hst0).name) H.length).Nodup && allN 0 A.length fun i => acmL G T H (A.getD i aclZ))))))
def nmL (lit : ByteArray) (x : Nam) : List ByteArray := [lit, x.name, wEq] ++ txL (Ip.tg x.list) x.list.length
def hsL (x : Hst) : List ByteArray := [wH, x.name, wEq, Ip.ptx x.net.v6 x.net.hi x.net.lo x.net.bits]
def acL0 (x : Acl) : List ByteArray := (([wA, prT x.protos.length (fun i => x.protos.getD i 0), wFr] ++ txL (fun i => seT (x.src.getD i selZ)) x.src.length) ++ [wTo]) ++ txL (fun i => seT (x.dst.getD i selZ)) x.dst.length
def acWL (x : Acl) : List ByteArray := if x.ports.length = 0 then acL0 x else (acL0 x ++ [wPo]) ++ txL (fun i => rgT (x.ports.getD i (0, 0)).1 (x.ports.getD i (0, 0)).2) x.ports.length
def txtL (G T : List Nam) (H : List Hst) (A : List Acl) : ByteArray :=
 catL (fun i => acWL (A.getD i aclZ)) A.length (catL (fun i => hsL (H.getD i hst0)) H.length (catL (fun i => nmL wT (T.getD i nam0)) T.length (catL (fun i => nmL wG (G.getD i nam0)) G.length ⟨#[]⟩)))
theorem mem_D {α : Type} {l : List α} {d : α} {i : Nat} (h : i < l.length) : l.getD i d ∈ l := List.mem_iff_getElem?.2 ⟨i, get_D h⟩
theorem selP_KB {l : List Sel} (h : ∀ s ∈ l, selP s) : selKB l = true := List.all_eq_true.2 fun s hs => by
 have := (h s hs).2.1
 simp [this.1, this.2]
theorem acB_of {T : List Blk} {a : AcM T} {x : Acl} (e : AcEq a x) (h : AcP x) : acB a := by
 unfold acB
 rw [e.h3, e.h4, e.h5, e.h6, e.h7, e.h8, e.h9]
 exact ⟨fun i hi => h.s _ (mem_D hi), fun i hi => h.d _ (mem_D hi), fun i hi => h.p _ (mem_D hi), h.n1, h.n2, h.n3⟩
theorem acW_of {T : List Blk} {a : AcM T} {x : Acl} (e : AcEq a x) : acW a = acWL x := by
 unfold acW acWL acL acL0
 rw [e.h1, e.h2, e.h3, e.h4, e.h5, e.h6, e.h7, e.h8, e.h9]
theorem allN_congr {lo n : Nat} {p q : Nat → Bool} (h : ∀ i, i < n → p i = q i) : allN lo n p = allN lo n q := by
 unfold allN
 rw [show (List.range n).all p = (List.range n).all q by
  rw [Bool.eq_iff_iff, List.all_eq_true, List.all_eq_true]
  exact ⟨fun k i hi => by rw [← h i (List.mem_range.1 hi)]; exact k i hi, fun k i hi => by rw [h i (List.mem_range.1 hi)]; exact k i hi⟩]
theorem catL_congr {f g : Nat → List ByteArray} {t : ByteArray} : ∀ {n : Nat}, (∀ i, i < n → f i = g i) → catL f n t = catL g n t
 | 0, _ => rfl
 | n + 1, h => by rw [catL, catL, h n (by omega), catL_congr fun i hi => h i (by omega)]
theorem c_TextL (G T : List Nam) (H : List Hst) (A : List Acl) (hP : PoP G T H A) (hm : mayL G T H A = true) (hs : (txtL G T H A).size ≤ 10000000) : Ct S0 C 10 [vG [vW 0, vW 1, vW 2, vW 3]] [tD (namD G), tD (namD T), tD (hstD H), tD (aclD A)] [] [] [] (if (txtL G T H A).size > 8192 then vT [vV (.string ⟨#[]⟩), vV (.int .i64 4)] else vT [vV (.string (txtL G T H A)), vV (.int .i64 0)]) := by
 refine ct_join 4 (pol4 G T H (aclD A)) _ (fun v => [vG [vV (v 0), vV (v 1), vV (v 2), vV (v 3)]]) (fun _ => rfl) (by split <;> rfl) fun v B hv => ?_
 have hb : ∀ i, i < 4 → ∀ b ∈ B i, b ∈ (List.range 4).flatMap B := fun i hi b hb => List.mem_flatMap.2 ⟨i, List.mem_range.2 hi, hb⟩
 generalize (List.range 4).flatMap B = TT at hb ⊢
 obtain ⟨xg, e0, g1, g2, g3, g4⟩ := nm_of (hv 0 (by decide)) (hb 0 (by decide)) hP.nG
 obtain ⟨xt, e1, t1, t2, t3, t4⟩ := nm_of (hv 1 (by decide)) (hb 1 (by decide)) hP.nT
 have h2 := rowH (hv 2 (by decide)) (hb 2 (by decide))
 have hA : aclD A (v 3) (B 3) := hv 3 (by decide)
 have hbA := hb 3 (by decide)
 obtain ⟨bh, ch, e2⟩ := RowD.len (show hstD H (v 2) (B 2) from hv 2 (by decide))
 obtain ⟨ba, ca, e3⟩ := hA.len
 have acs : ∃ a : Nat → AcM TT, (Sl TT 4 A.length (acN a) (v 3)) ∧ ∀ i, i < A.length → AcEq (a i) (A.getD i aclZ) := by
  classical
  obtain ⟨F, k1, k2⟩ := hA.sl
  have key : ∀ i, i < A.length → ∃ a : AcM TT, (∀ j, j < 4 → F i j = acN (fun _ => a) i j) ∧ AcEq a (A.getD i aclZ) := fun i hi => by
   obtain ⟨cs, Te, hel, hcl, k3, k4⟩ := k2 i _ (get_D (d := aclZ) hi)
   have hp := hP.a _ (mem_D (d := aclZ) hi)
   obtain ⟨a, rfl, ha⟩ := ac_of hel (fun b hb => hbA b (k4 b hb)) hp.np (selP_KB hp.s) (selP_KB hp.d)
   refine ⟨a, fun j hj => ?_, ha⟩
   match j, hj with
   | 0, _ => exact k3 0 _ rfl
   | 1, _ => exact k3 1 _ rfl
   | 2, _ => exact k3 2 _ rfl
   | 3, _ => exact k3 3 _ rfl
  obtain ⟨a0⟩ : Nonempty (AcM TT) := ⟨⟨(none, 0), 0, fun _ => 0, ⟨none, 0, 0, 0, rfl, fun h => by omega⟩, by decide, (none, 0), 0, fun _ => selZ, ⟨none, 0, 0, 0, rfl, fun h => by omega⟩, fun i hi => by omega, (none, 0), 0, fun _ => selZ, ⟨none, 0, 0, 0, rfl, fun h => by omega⟩, fun i hi => by omega, (none, 0), 0, fun _ => 0, fun _ => 0, ⟨none, 0, 0, 0, rfl, fun h => by omega⟩⟩⟩
  refine ⟨fun i => if hi : i < A.length then (key i hi).choose else a0, (k1.sub hbA).congr fun i j hi hj => ?_, fun i hi => ?_⟩
  ·rw [(key i hi).choose_spec.1 j hj]
   match j, hj with
   | 0, _ | 1, _ | 2, _ | 3, _ => simp only [acN, dif_pos hi]
  ·simp only [dif_pos hi]
   exact (key i hi).choose_spec.2
 obtain ⟨a, k1, k2⟩ := acs
 rw [e2] at h2
 rw [e3] at k1
 obtain ⟨p, hp⟩ : ∃ p : PoM TT, p = ⟨xg, xt, (bh, ch), H.length, _, _, h2, fun i hi => hP.h _ (mem_D hi), hP.nH, (ba, ca), A.length, a, k1⟩ := ⟨_, rfl⟩
 have pv : p.vs = [vV (v 0), vV (v 1), vV (v 2), vV (v 3)] := by
  rw [hp, e0, e1, e2, e3]
 have pm : p.may = mayL G T H A := by
  rw [hp]
  unfold PoM.may mayL NmM.may nmMay
  simp only [g1, g2, g3, g4, t1, t2, t3, t4]
  have : ∀ i, i < A.length → acmB (PoM.tl (⟨xg, xt, (bh, ch), H.length, _, _, h2, fun i hi => hP.h _ (mem_D hi), hP.nH, (ba, ca), A.length, a, k1⟩ : PoM TT)) (a i) = acmL G T H (A.getD i aclZ) := fun i hi => by
   have e := k2 i hi
   unfold acmB acmL tlF tlL PoM.tl
   simp only [e.h1, e.h2, e.h3, e.h4, e.h5, e.h6, e.h7, e.h8, e.h9, g1, g2, t1, t2]
  rw [allN_congr this]
 have pt : p.txt = txtL G T H A := by
  rw [hp]
  unfold PoM.txt PoM.t3 PoM.t2 PoM.t1 txtL nmLn nmL hsLn hsL
  simp only [g1, g2, g3, g4, t1, t2, t3, t4]
  exact catL_congr fun i hi => acW_of (k2 i hi)
 have := c_TextY (C := C) TT p (by rw [pm, hm]) (fun i hi => ?_) (fun i hi => ?_) (fun i hi => ?_) (by rw [hp]; exact hP.nA) (by rw [pt]; exact hs)
 ·rw [pt, pv] at this
  exact this
 ·rw [hp] at hi ⊢
  simp only [g1, g3] at hi ⊢
  exact hP.g _ (mem_D hi)
 ·rw [hp] at hi ⊢
  simp only [t1, t3] at hi ⊢
  exact hP.t _ (mem_D hi)
 ·rw [hp] at hi ⊢
  exact acB_of (k2 i hi) (hP.a _ (mem_D hi))
end Go.Proofs.YtbdgncndhnnjoaaGreatDoor

namespace Go.Proofs.YtbdgncndhnnjoaaGreatDoor
open Go.RowKit YtbdgncndhnnjoaaGreatDoor
set_option linter.unusedVariables false
set_option linter.unusedSimpArgs false
set_option maxHeartbeats 0
set_option maxRecDepth 100000
variable {C : World → Prop}
structure AcS (T : List Blk) (x : Acl) (v1 v2 v3 v4 : Value) : Prop where
 h1 : Sl T 1 x.protos.length (oneF fun i => x.protos.getD i 0) v1
 h2 : Sl T 6 x.src.length (slN fun i => x.src.getD i selZ) v2
 h3 : Sl T 6 x.dst.length (slN fun i => x.dst.getD i selZ) v3
 h4 : Sl T 2 x.ports.length (ptN (fun i => (x.ports.getD i (0, 0)).1) fun i => (x.ports.getD i (0, 0)).2) v4
structure PoS (T : List Blk) (G R : List Nam) (H : List Hst) (A : List Acl) (v0 v1 v2 v3 : Value) where
 s0 : Nat → Value
 s1 : Nat → Value
 F : Nat → Nat → Value
 h0 : Sl T 2 G.length (nF (fun i => (G.getD i nam0).name) s0) v0
 h1 : Sl T 2 R.length (nF (fun i => (R.getD i nam0).name) s1) v1
 h2 : Sl T 5 H.length (hF (fun i => (H.getD i hst0).name) fun i => (H.getD i hst0).net) v2
 h3 : Sl T 4 A.length F v3
 k0 : ∀ i, i < G.length → Sl T 1 (G.getD i nam0).list.length (fun j _ => .string (Ip.tg (G.getD i nam0).list j)) (s0 i)
 k1 : ∀ i, i < R.length → Sl T 1 (R.getD i nam0).list.length (fun j _ => .string (Ip.tg (R.getD i nam0).list j)) (s1 i)
 k3 : ∀ i, i < A.length → AcS T (A.getD i aclZ) (F i 0) (F i 1) (F i 2) (F i 3)
structure PoB (G R : List Nam) (H : List Hst) (A : List Acl) : Prop where
 n0 : G.length < 1000000
 n1 : R.length < 1000000
 n2 : H.length < 1000000
 n3 : A.length < 1000000
 g : ∀ x ∈ G, x.list.length < 1000000
 r : ∀ x ∈ R, x.list.length < 1000000
 a : ∀ x ∈ A, x.protos.length < 1000000 ∧ x.src.length < 1000000 ∧ x.dst.length < 1000000 ∧ x.ports.length < 1000000
theorem c_sameS (T : List Blk) (G R : List Nam) (H : List Hst) (A : List Acl) (v1 v2 v3 v4 u1 u2 u3 u4 : Value) (p : PoS T G R H A v1 v2 v3 v4) (q : PoS T G R H A u1 u2 u3 u4) (b : PoB G R H A) : Ct S0 C 14 [vG [vV v1, vV v2, vV v3, vV v4], vG [vV u1, vV u2, vV u3, vV u4]] [tX T] [] [] [] (vV (.bool true)) := by
 have r0 := p.k0
 have r1 := p.k1
 have r3 := p.k3
 have w0 := q.k0
 have w1 := q.k1
 have w3 := q.k3
 have b0 := b.n0
 have b1 := b.n1
 have b2 := b.n2
 have b3 := b.n3
 obtain ⟨x1, c1, y1, o1, rfl, H1⟩ := p.h0
 obtain ⟨x2, c2, y2, o2, rfl, H2⟩ := p.h1
 obtain ⟨x3, c3, y3, o3, rfl, H3⟩ := p.h2
 obtain ⟨x4, c4, y4, o4, rfl, H4⟩ := p.h3
 obtain ⟨z1, k1, t1, e1, rfl, G1⟩ := q.h0
 obtain ⟨z2, k2, t2, e2, rfl, G2⟩ := q.h1
 obtain ⟨z3, k3, t3, e3, rfl, G3⟩ := q.h2
 obtain ⟨z4, k4, t4, e4, rfl, G4⟩ := q.h3
 have f1 : ((G.length : Int) != (G.length : Int)) = false := by simp
 have f2 : ((R.length : Int) != (R.length : Int)) = false := by simp
 have f3 : ((H.length : Int) != (H.length : Int)) = false := by simp
 have f4 : ((A.length : Int) != (A.length : Int)) = false := by simp
 generalize p.s0 = s0 at *
 generalize q.s0 = s0' at *
 generalize p.s1 = s1 at *
 generalize q.s1 = s1' at *
 generalize p.F = F at *
 generalize q.F = F' at *
 refine xIn Tryz.f14 fun E0 w0_ hL hC hk => ?_
 refine xR 52 [(9, dB f1), (17, dB f2), (26, dB f3), (35, dB f4)] ?_
 refine xLp (fun (x : Nat) => [(5, vV (.int .i64 (x : Int)))]) (fun x => []) [43, 44, 45, 46, 47, 50, 51, 52, 53, 54, 55, 56, 57, 58, 59, 60, 61, 4, 48, 49] (fun x => x ≤ G.length) (fun x => G.length - x) 0 (Nat.zero_le _) fun x d_ hx g => ?_
 by_cases q1 : (x : Int) < (G.length : Int)
 ·have q1' : x < G.length := by omega
  have kp := fun C => c_sameN (C := C) T (G.getD x nam0).name _ _ _ _ (r0 x q1') (w0 x q1') (b.g _ (mem_D q1'))
  refine xR 23 [(4, dT q1), (8, dIxR 22 H1 c1 x q1'), (9, dLdR 46 0 H1 x q1'), (13, dIxR 22 G1 k1 x q1'), (14, dLdR 46 0 G1 x q1'), (15, dC (kp _) [0]), (18, dW ((↑x : Int) + 1) ((↑(x + 1) : Int)) (by omega) (by omega) (by omega))] ?_
  exact xNx g (x + 1) [43, 44, 45, 46, 47, 50, 51, 52, 53, 54, 55, 56, 57, 58, 59, 60, 61, 4, 48, 49] [0, 1, 2] (by omega) (by omega)
 ·obtain rfl : x = G.length := by omega
  refine xR 17 [(4, dF q1)] ?_
  refine xLp (fun (x : Nat) => [(6, vV (.int .i64 (x : Int)))]) (fun x => []) [62, 63, 64, 65, 66, 69, 70, 71, 72, 73, 74, 75, 76, 77, 78, 79, 80, 4, 67, 68] (fun x => x ≤ R.length) (fun x => R.length - x) 0 (Nat.zero_le _) fun x d_ hx g => ?_
  by_cases q1 : (x : Int) < (R.length : Int)
  ·have q1' : x < R.length := by omega
   have kp := fun C => c_sameN (C := C) T (R.getD x nam0).name _ _ _ _ (r1 x q1') (w1 x q1') (b.r _ (mem_D q1'))
   refine xR 23 [(4, dT q1), (8, dIxR 22 H2 c2 x q1'), (9, dLdR 46 0 H2 x q1'), (13, dIxR 22 G2 k2 x q1'), (14, dLdR 46 0 G2 x q1'), (15, dC (kp _) [0]), (18, dW ((↑x : Int) + 1) ((↑(x + 1) : Int)) (by omega) (by omega) (by omega))] ?_
   exact xNx g (x + 1) [62, 63, 64, 65, 66, 69, 70, 71, 72, 73, 74, 75, 76, 77, 78, 79, 80, 4, 67, 68] [0, 1, 2] (by omega) (by omega)
  ·obtain rfl : x = R.length := by omega
   refine xR 17 [(4, dF q1)] ?_
   refine xLp (fun (x : Nat) => [(7, vV (.int .i64 (x : Int)))]) (fun x => []) [81, 82, 83, 84, 85, 88, 89, 90, 91, 92, 93, 94, 95, 96, 97, 98, 4, 86, 87] (fun x => x ≤ H.length) (fun x => H.length - x) 0 (Nat.zero_le _) fun x d_ hx g => ?_
   by_cases q1 : (x : Int) < (H.length : Int)
   ·have q1' : x < H.length := by omega
    refine xR 23 [(4, dT q1), (8, dIxR 23 H3 c3 x q1'), (9, dLdR 53 0 H3 x q1'), (13, dIxR 23 G3 k3 x q1'), (14, dLdR 53 0 G3 x q1'), (15, dNe53 (H.getD x hst0).name (H.getD x hst0).net), (17, dW ((↑x : Int) + 1) ((↑(x + 1) : Int)) (by omega) (by omega) (by omega))] ?_
    exact xNx g (x + 1) [81, 82, 83, 84, 85, 88, 89, 90, 91, 92, 93, 94, 95, 96, 97, 98, 4, 86, 87] [0, 1, 2] (by omega) (by omega)
   ·obtain rfl : x = H.length := by omega
    refine xR 17 [(4, dF q1)] ?_
    refine xLp (fun (x : Nat) => [(8, vV (.int .i64 (x : Int)))]) (fun x => []) [99, 100, 101, 102, 103, 106, 107, 108, 109, 110, 111, 112, 113, 114, 115, 116, 117, 4, 104, 105] (fun x => x ≤ A.length) (fun x => A.length - x) 0 (Nat.zero_le _) fun x d_ hx g => ?_
    by_cases q1 : (x : Int) < (A.length : Int)
    ·have q1' : x < A.length := by omega
     obtain ⟨a1, a2, a3, a4⟩ := b.a _ (mem_D (d := aclZ) q1')
     have kp := fun C => c_sameA (C := C) T _ _ _ _ _ _ _ _ _ _ _ _ _ _ _ _ _ (r3 x q1').h1 (r3 x q1').h2 (r3 x q1').h3 (r3 x q1').h4 (w3 x q1').h1 (w3 x q1').h2 (w3 x q1').h3 (w3 x q1').h4 a1 a2 a3 a4
     refine xR 23 [(4, dT q1), (8, dIxR 24 H4 c4 x q1'), (9, dLdR 57 0 H4 x q1'), (13, dIxR 24 G4 k4 x q1'), (14, dLdR 57 0 G4 x q1'), (15, dC (kp _) [0]), (18, dW ((↑x : Int) + 1) ((↑(x + 1) : Int)) (by omega) (by omega) (by omega))] ?_
     exact xNx g (x + 1) [99, 100, 101, 102, 103, 106, 107, 108, 109, 110, 111, 112, 113, 114, 115, 116, 117, 4, 104, 105] [0, 1, 2] (by omega) (by omega)
    ·obtain rfl : x = A.length := by omega
     refine xR 15 [(4, dF q1)] ?_
     exact (xRetC [])
end Go.Proofs.YtbdgncndhnnjoaaGreatDoor

namespace Go.Proofs.YtbdgncndhnnjoaaGreatDoor
open Go.RowKit YtbdgncndhnnjoaaGreatDoor
set_option linter.unusedVariables false
set_option linter.unusedSimpArgs false
set_option maxHeartbeats 0
set_option maxRecDepth 100000
variable {C : World → Prop}
theorem nmS_of {G : List Nam} {v : Value} {T T' : List Blk} (h : namD G v T) (hs : ∀ b ∈ T, b ∈ T') : ∃ s : Nat → Value, Sl T' 2 G.length (nF (fun i => (G.getD i nam0).name) s) v ∧ ∀ i, i < G.length → Sl T' 1 (G.getD i nam0).list.length (fun j _ => .string (Ip.tg (G.getD i nam0).list j)) (s i) := by
 obtain ⟨F, h1, h2⟩ := h.sl
 have key : ∀ i, i < G.length → F i 0 = .string (G.getD i nam0).name ∧ ∃ Te, RowD 1 9 strEl (G.getD i nam0).list (F i 1) Te ∧ ∀ b ∈ Te, b ∈ T := fun i hi => by
  obtain ⟨cs, Te, ⟨u, rfl, hr⟩, -, h3, h4⟩ := h2 i _ (get_D (d := nam0) hi)
  exact ⟨h3 0 _ rfl, Te, by rw [h3 1 _ rfl]; exact hr, h4⟩
 refine ⟨fun i => F i 1, (h1.sub hs).congr fun i j hi hj => ?_, fun i hi => ?_⟩
 ·match j, hj with
  | 0, _ => exact (key i hi).1
  | 1, _ => rfl
 ·obtain ⟨-, Te, hr, ht⟩ := key i hi
  exact rowS hr fun b hb => hs _ (ht b hb)
theorem pos_of {G R : List Nam} {H : List Hst} {A : List Acl} {v0 v1 v2 v3 : Value} {B0 B1 B2 B3 TT : List Blk} (h0 : namD G v0 B0) (h1 : namD R v1 B1) (h2 : hstD H v2 B2) (h3 : aclD A v3 B3) (e0 : ∀ b ∈ B0, b ∈ TT) (e1 : ∀ b ∈ B1, b ∈ TT) (e2 : ∀ b ∈ B2, b ∈ TT) (e3 : ∀ b ∈ B3, b ∈ TT) : Nonempty (PoS TT G R H A v0 v1 v2 v3) := by
 obtain ⟨s0, a0, k0⟩ := nmS_of h0 e0
 obtain ⟨s1, a1, k1⟩ := nmS_of h1 e1
 obtain ⟨F, a3, k3⟩ := RowD.sl h3
 refine ⟨⟨s0, s1, F, a0, a1, rowH h2 e2, a3.sub e3, k0, k1, fun i hi => ?_⟩⟩
 obtain ⟨cs, Te, ⟨x1, x2, x3, x4, T1, T2, T3, T4, rfl, rfl, q1, q2, q3, q4⟩, -, hcs, hT⟩ := k3 i _ (get_D (d := aclZ) hi)
 rw [hcs 0 _ rfl, hcs 1 _ rfl, hcs 2 _ rfl, hcs 3 _ rfl]
 exact ⟨rowU q1 fun b hb => e3 b (hT b (by simp [hb])), rowL q2 fun b hb => e3 b (hT b (by simp [hb])), rowL q3 fun b hb => e3 b (hT b (by simp [hb])), rowP q4 fun b hb => e3 b (hT b (by simp [hb]))⟩
def pol8 (G R : List Nam) (H : List Hst) (A : List Acl) : Nat → DP
 | 0 => namD G
 | 1 => namD R
 | 2 => hstD H
 | 3 => aclD A
 | 4 => namD G
 | 5 => namD R
 | 6 => hstD H
 | _ => aclD A
theorem c_same (G R : List Nam) (H : List Hst) (A : List Acl) (b : PoB G R H A) : Ct S0 C 14 [vG [vW 0, vW 1, vW 2, vW 3], vG [vW 4, vW 5, vW 6, vW 7]] [tD (namD G), tD (namD R), tD (hstD H), tD (aclD A), tD (namD G), tD (namD R), tD (hstD H), tD (aclD A)] [] [] [] (vV (.bool true)) := by
 refine ct_join 8 (pol8 G R H A) _ (fun v => [vG [vV (v 0), vV (v 1), vV (v 2), vV (v 3)], vG [vV (v 4), vV (v 5), vV (v 6), vV (v 7)]]) (fun _ => rfl) rfl fun v B hv => ?_
 have hb : ∀ i, i < 8 → ∀ b ∈ B i, b ∈ (List.range 8).flatMap B := fun i hi b hb => List.mem_flatMap.2 ⟨i, List.mem_range.2 hi, hb⟩
 generalize (List.range 8).flatMap B = TT at hb ⊢
 obtain ⟨p⟩ := pos_of (hv 0 (by decide)) (hv 1 (by decide)) (hv 2 (by decide)) (hv 3 (by decide)) (hb 0 (by decide)) (hb 1 (by decide)) (hb 2 (by decide)) (hb 3 (by decide))
 obtain ⟨q⟩ := pos_of (hv 4 (by decide)) (hv 5 (by decide)) (hv 6 (by decide)) (hv 7 (by decide)) (hb 4 (by decide)) (hb 5 (by decide)) (hb 6 (by decide)) (hb 7 (by decide))
 exact c_sameS TT G R H A _ _ _ _ _ _ _ _ p q b
end Go.Proofs.YtbdgncndhnnjoaaGreatDoor

namespace Go.Proofs.YtbdgncndhnnjoaaGreatDoor
open Go.RowKit YtbdgncndhnnjoaaGreatDoor
set_option linter.unusedVariables false
set_option linter.unusedSimpArgs false
set_option maxHeartbeats 0
set_option maxRecDepth 100000
variable {C : World → Prop}
theorem prA_pob {t : ByteArray} {s : PS} (ht : t.size ≤ 8192) (h : prA t = .ok s) : PoB s.G s.T s.H s.A := by
 obtain ⟨b, l⟩ := prA_bl ht h
 obtain ⟨b1, b2, b3, b4, -⟩ := b
 obtain ⟨l1, l2, l3⟩ := l
 exact ⟨by omega, by omega, by omega, by omega, fun x hx => Nat.lt_of_le_of_lt (l1 x hx) (by decide), fun x hx => Nat.lt_of_le_of_lt (l2 x hx) (by decide), fun x hx => by
  obtain ⟨a1, a2, a3, a4⟩ := l3 x hx
  exact ⟨by omega, by omega, by omega, by omega⟩⟩
def dIx42 (i : Int) (k : Nat) (hi : i = (k : Int)) (hk : k < 4) : Dr S0 C := dRd (oOp 6 42 0 [] [vG [vV (.string ⟨#[]⟩), vV (.string ⟨#[32, 35, 32, 97, 99, 99, 101, 112, 116, 32, 97, 110, 121]⟩), vV (.string ⟨#[32, 32]⟩), vV (.string ⟨#[10, 32, 9, 10, 35, 32, 120]⟩)], vV (.int .u8 i)]) (vV (.string (mkB (sfx k)))) fun E w _ _ => by
 subst hi
 match k, hk with
 | 0, _ => rfl
 | 1, _ => rfl
 | 2, _ => rfl
 | 3, _ => rfl
theorem c_rmk (hw8 : ∀ C, Ct S0 C 8 [] [] [] [] [] (vV (.bool true))) (s : ByteArray) (n : Nat) (rs : Nat → Int) (base : Option Addr) (cap b0 o : Nat) (hbase : 0 < n → base = some ⟨b0, o, none⟩) (hcell : ∀ w, C w → ∀ i, i < n → w.cell? ⟨b0, o + i, none⟩ = some (.int .u8 (rs i))) (hb : ∀ i, i < n → 0 ≤ rs i ∧ rs i < 256) : Ct S0 C 6 [vV (.string s), vV (.slice base n cap)] [] [] [] [] (vV (.bool true)) := by
 have H : SlO [⟨b0, .cells ((List.range (o + n)).map fun k => Value.int .u8 (rs (k - o))).toArray 5 (0, 0)⟩] 1 n (oneF rs) base b0 o := fun h0 => by
  refine ⟨hbase h0, _, _, _, List.mem_singleton.2 rfl, fun i j hi hj => ?_⟩
  obtain rfl : j = 0 := by omega
  rw [List.getElem?_toArray, List.getElem?_map, List.getElem?_range (by omega)]
  show some (Value.int .u8 (rs (o + i * 1 + 0 - o))) = some (Value.int .u8 (rs i))
  rw [Nat.mul_one, Nat.add_zero, Nat.add_sub_cancel_left]
 by_cases q1 : (s.size : Int) > 4096
 ·refine xIn Tryz.f6 fun E0 w0 hL hC hk => ?_
  refine xR 22 [(3, dT q1), (9, dC (hw8 _) [])] ?_
  exact (xRetC [])
 ·by_cases q2 : (n : Int) > 200
  ·refine xIn Tryz.f6 fun E0 w0 hL hC hk => ?_
   refine xR 22 [(3, dF q1), (7, dT q2), (9, dC (hw8 _) [])] ?_
   exact (xRetC [])
  ·have q3 : s.size ≤ 8192 := by omega
   rcases h1 : prA s with ⟨e, m, a⟩ | st
   ·obtain ⟨he, -⟩ := prA_err h1
    have q4 : (e != 0) = true := by simpa using he
    have k1 := fun C => c_parseE (C := C) s q3 he h1
    refine xIn Tryz.f6 fun E0 w0 hL hC hk => ?_
    refine xR 43 [(3, dF q1), (7, dF q2), (10, dC (k1 _) []), (20, dB q4), (21, dC (hw8 _) [])] ?_
    exact (xRetC [])
   ·have k1 := fun C => c_parseO (C := C) s q3 h1
    refine xIn Tryz.f6 fun E0 w0 hL hC hk => ?_
    refine xR 53 [(3, dF q1), (7, dF q2), (10, dC (k1 _) [])] ?_
    refine xSlK 7 (vV (.string ⟨#[]⟩)) (vV (.string (tF (hwF rs n) (sL s) 0))) (fun E _ => by rw [tF_0]) ?_
    refine xSlK 8 (vV (.int .i64 0)) (vV (.int .i64 (lF (sL s) 0 : Int))) (fun E _ => by rw [lF_0]; rfl) ?_
    refine xLp (fun (x : Nat) => [(9, vV (.int .i64 (x : Int))), (7, vV (.string (tF (hwF rs n) (sL s) x))), (8, vV (.int .i64 (lF (sL s) x : Int)))]) (fun x => []) [31, 32, 33, 34, 37, 38, 39, 40, 41, 42, 43, 44, 45, 46, 47, 48, 49, 50, 51, 52, 53, 54, 55, 56, 57, 58, 59, 10, 60, 61, 62, 63, 64, 65, 66, 67, 68, 69, 70, 71, 72, 73, 74, 75, 76, 35, 36] (fun x => x ≤ s.size + 1) (fun x => s.size + 1 - x) 0 (Nat.zero_le _) fun x d_ hx g => ?_
    have hll := lF_le (sL s) x
    rw [sL_len] at hll
    have hz := tF_sz (hwF rs n) (sL s) x
    have hz2 := sfx_sz (hwF rs n (lF (sL s) x))
    by_cases q5 : (x : Int) ≤ (s.size : Int)
    ·by_cases q6 : (x : Int) < (s.size : Int)
     ·have q6' : x < s.size := by omega
      by_cases q7 : bt s x = 10
      ·have q7' : (bt s x != 10) = false := by simp [q7]
       by_cases q9 : (lF (sL s) x : Int) < (n : Int)
       ·have hi := hwF_m hb (k := lF (sL s) x) (by omega)
        obtain ⟨f1, f2⟩ := tF_n (hw := hwF rs n) (s := s) (.inr ⟨q6', q7⟩) rfl
        have z1 : (tF (hwF rs n) (sL s) x).size + (mkB (sfx (hwF rs n (lF (sL s) x)))).size ≤ 1000000000 := by omega
        have z2 : (tF (hwF rs n) (sL s) x ++ mkB (sfx (hwF rs n (lF (sL s) x)))).size + (ByteArray.mk #[10]).size ≤ 1000000000 := by rw [ByteArray.size_append]; show _ + 1 ≤ _; omega
        refine xR 70 [(3, dT q5), (7, dT q6), (11, dIs 9 s x q6'), (12, dB q7'), (18, dT q9), (21, dIxR 41 H cap (lF (sL s) x) (by omega)), (22, dRo 5 b0 (o + lF (sL s) x * 1) (.int .u8 (rs (lF (sL s) x))) (fun w hm => by rw [Nat.mul_one]; exact hcell w (hC w hm) _ (by omega))), (28, dIx42 ((rs (lF (sL s) x)).tmod 4) (hwF rs n (lF (sL s) x)) hi (hwF_lt hb _)), (29, dCat 9 (tF (hwF rs n) (sL s) x) (mkB (sfx (hwF rs n (lF (sL s) x)))) z1), (30, dCat 9 (tF (hwF rs n) (sL s) x ++ mkB (sfx (hwF rs n (lF (sL s) x)))) ⟨#[10]⟩ z2), (33, dW ((↑(lF (sL s) x) : Int) + 1) ((↑((lF (sL s) x) + 1) : Int)) (by omega) (by omega) (by omega)), (36, dW ((↑x : Int) + 1) ((↑(x + 1) : Int)) (by omega) (by omega) (by omega))] ?_
        refine xSlK 7 (vV (.string ((tF (hwF rs n) (sL s) x ++ mkB (sfx (hwF rs n (lF (sL s) x)))) ++ ⟨#[10]⟩))) (vV (.string (tF (hwF rs n) (sL s) (x + 1)))) (fun E _ => by rw [f1]) ?_
        refine xSlK 8 (vV (.int .i64 ((lF (sL s) x + 1 : Nat) : Int))) (vV (.int .i64 ((lF (sL s) (x + 1) : Nat) : Int))) (fun E _ => by rw [f2]) ?_
        exact xNx g (x + 1) [31, 32, 33, 34, 37, 38, 39, 40, 41, 42, 43, 44, 45, 46, 47, 48, 49, 50, 51, 52, 53, 54, 55, 56, 57, 58, 59, 10, 60, 61, 62, 63, 64, 65, 66, 67, 68, 69, 70, 71, 72, 73, 74, 75, 76, 35, 36] [0, 1, 2, 3, 4, 5] (by omega) (by omega)
       ·have hi : hwF rs n (lF (sL s) x) = 0 := by unfold hwF; rw [if_neg (by omega)]
        obtain ⟨f1, f2⟩ := tF_n (hw := hwF rs n) (s := s) (.inr ⟨q6', q7⟩) (w := ⟨#[]⟩) (by rw [hi]; rfl)
        have z1 : (tF (hwF rs n) (sL s) x).size + (ByteArray.mk #[]).size ≤ 1000000000 := by show _ + 0 ≤ _; omega
        have z2 : (tF (hwF rs n) (sL s) x ++ ByteArray.mk #[]).size + (ByteArray.mk #[10]).size ≤ 1000000000 := by rw [ByteArray.size_append]; show _ + 0 + 1 ≤ _; omega
        refine xR 63 [(3, dT q5), (7, dT q6), (11, dIs 9 s x q6'), (12, dB q7'), (18, dF q9), (23, dCat 9 (tF (hwF rs n) (sL s) x) ⟨#[]⟩ z1), (24, dCat 9 (tF (hwF rs n) (sL s) x ++ ⟨#[]⟩) ⟨#[10]⟩ z2), (27, dW ((↑(lF (sL s) x) : Int) + 1) ((↑((lF (sL s) x) + 1) : Int)) (by omega) (by omega) (by omega)), (30, dW ((↑x : Int) + 1) ((↑(x + 1) : Int)) (by omega) (by omega) (by omega))] ?_
        refine xSlK 7 (vV (.string ((tF (hwF rs n) (sL s) x ++ ⟨#[]⟩) ++ ⟨#[10]⟩))) (vV (.string (tF (hwF rs n) (sL s) (x + 1)))) (fun E _ => by rw [f1]) ?_
        refine xSlK 8 (vV (.int .i64 ((lF (sL s) x + 1 : Nat) : Int))) (vV (.int .i64 ((lF (sL s) (x + 1) : Nat) : Int))) (fun E _ => by rw [f2]) ?_
        exact xNx g (x + 1) [31, 32, 33, 34, 37, 38, 39, 40, 41, 42, 43, 44, 45, 46, 47, 48, 49, 50, 51, 52, 53, 54, 55, 56, 57, 58, 59, 10, 60, 61, 62, 63, 64, 65, 66, 67, 68, 69, 70, 71, 72, 73, 74, 75, 76, 35, 36] [0, 1, 2, 3, 4, 5] (by omega) (by omega)
      ·have q7' : (bt s x != 10) = true := by simp [q7]
       have z1 : (tF (hwF rs n) (sL s) x).size + (s.extract x (x + 1)).size ≤ 1000000000 := by rw [ByteArray.size_extract]; omega
       by_cases q8 : bt s x = 32
       ·obtain ⟨f1, f2⟩ := tF_32 (hw := hwF rs n) q6' q8
        have z2 : (tF (hwF rs n) (sL s) x ++ s.extract x (x + 1)).size + (ByteArray.mk #[9, 32]).size ≤ 1000000000 := by rw [ByteArray.size_append, ByteArray.size_extract]; show _ + 2 ≤ _; omega
        refine xR 58 [(3, dT q5), (7, dT q6), (11, dIs 9 s x q6'), (12, dB q7'), (18, dW ((↑x : Int) + 1) ((↑(x + 1) : Int)) (by omega) (by omega) (by omega)), (19, dSlh 9 s x (x + 1) (by omega) (by omega)), (20, dCat 9 (tF (hwF rs n) (sL s) x) (s.extract x (x + 1)) z1), (24, dIs 9 s x q6'), (25, dB ((iEq (bt s x) 32).trans (DT q8))), (27, dCat 9 (tF (hwF rs n) (sL s) x ++ s.extract x (x + 1)) ⟨#[9, 32]⟩ z2), (30, dW ((↑x : Int) + 1) ((↑(x + 1) : Int)) (by omega) (by omega) (by omega))] ?_
        refine xSlK 7 (vV (.string ((tF (hwF rs n) (sL s) x ++ s.extract x (x + 1)) ++ ⟨#[9, 32]⟩))) (vV (.string (tF (hwF rs n) (sL s) (x + 1)))) (fun E _ => by rw [f1]) ?_
        refine xSlK 8 (vV (.int .i64 ((lF (sL s) x : Nat) : Int))) (vV (.int .i64 ((lF (sL s) (x + 1) : Nat) : Int))) (fun E _ => by rw [f2]) ?_
        exact xNx g (x + 1) [31, 32, 33, 34, 37, 38, 39, 40, 41, 42, 43, 44, 45, 46, 47, 48, 49, 50, 51, 52, 53, 54, 55, 56, 57, 58, 59, 10, 60, 61, 62, 63, 64, 65, 66, 67, 68, 69, 70, 71, 72, 73, 74, 75, 76, 35, 36] [0, 1, 2, 3, 4, 5] (by omega) (by omega)
       ·obtain ⟨f1, f2⟩ := tF_b (hw := hwF rs n) q6' q7 q8
        refine xR 54 [(3, dT q5), (7, dT q6), (11, dIs 9 s x q6'), (12, dB q7'), (18, dW ((↑x : Int) + 1) ((↑(x + 1) : Int)) (by omega) (by omega) (by omega)), (19, dSlh 9 s x (x + 1) (by omega) (by omega)), (20, dCat 9 (tF (hwF rs n) (sL s) x) (s.extract x (x + 1)) z1), (24, dIs 9 s x q6'), (25, dB ((iEq (bt s x) 32).trans (DF q8))), (27, dW ((↑x : Int) + 1) ((↑(x + 1) : Int)) (by omega) (by omega) (by omega))] ?_
        refine xSlK 7 (vV (.string (tF (hwF rs n) (sL s) x ++ s.extract x (x + 1)))) (vV (.string (tF (hwF rs n) (sL s) (x + 1)))) (fun E _ => by rw [f1]) ?_
        refine xSlK 8 (vV (.int .i64 ((lF (sL s) x : Nat) : Int))) (vV (.int .i64 ((lF (sL s) (x + 1) : Nat) : Int))) (fun E _ => by rw [f2]) ?_
        exact xNx g (x + 1) [31, 32, 33, 34, 37, 38, 39, 40, 41, 42, 43, 44, 45, 46, 47, 48, 49, 50, 51, 52, 53, 54, 55, 56, 57, 58, 59, 10, 60, 61, 62, 63, 64, 65, 66, 67, 68, 69, 70, 71, 72, 73, 74, 75, 76, 35, 36] [0, 1, 2, 3, 4, 5] (by omega) (by omega)
     ·obtain rfl : x = s.size := by omega
      by_cases q9 : (lF (sL s) s.size : Int) < (n : Int)
      ·have hi := hwF_m hb (k := lF (sL s) s.size) (by omega)
       obtain ⟨f1, f2⟩ := tF_n (hw := hwF rs n) (s := s) (.inl rfl) rfl
       have z1 : (tF (hwF rs n) (sL s) s.size).size + (mkB (sfx (hwF rs n (lF (sL s) s.size)))).size ≤ 1000000000 := by omega
       have z2 : (tF (hwF rs n) (sL s) s.size ++ mkB (sfx (hwF rs n (lF (sL s) s.size)))).size + (ByteArray.mk #[10]).size ≤ 1000000000 := by rw [ByteArray.size_append]; show _ + 1 ≤ _; omega
       refine xR 70 [(3, dT q5), (7, dF q6), (18, dT q9), (21, dIxR 41 H cap (lF (sL s) s.size) (by omega)), (22, dRo 5 b0 (o + lF (sL s) s.size * 1) (.int .u8 (rs (lF (sL s) s.size))) (fun w hm => by rw [Nat.mul_one]; exact hcell w (hC w hm) _ (by omega))), (28, dIx42 ((rs (lF (sL s) s.size)).tmod 4) (hwF rs n (lF (sL s) s.size)) hi (hwF_lt hb _)), (29, dCat 9 (tF (hwF rs n) (sL s) s.size) (mkB (sfx (hwF rs n (lF (sL s) s.size)))) z1), (30, dCat 9 (tF (hwF rs n) (sL s) s.size ++ mkB (sfx (hwF rs n (lF (sL s) s.size)))) ⟨#[10]⟩ z2), (33, dW ((↑(lF (sL s) s.size) : Int) + 1) ((↑((lF (sL s) s.size) + 1) : Int)) (by omega) (by omega) (by omega)), (36, dW ((↑s.size : Int) + 1) ((↑(s.size + 1) : Int)) (by omega) (by omega) (by omega))] ?_
       refine xSlK 7 (vV (.string ((tF (hwF rs n) (sL s) s.size ++ mkB (sfx (hwF rs n (lF (sL s) s.size)))) ++ ⟨#[10]⟩))) (vV (.string (tF (hwF rs n) (sL s) (s.size + 1)))) (fun E _ => by rw [f1]) ?_
       refine xSlK 8 (vV (.int .i64 ((lF (sL s) s.size + 1 : Nat) : Int))) (vV (.int .i64 ((lF (sL s) (s.size + 1) : Nat) : Int))) (fun E _ => by rw [f2]) ?_
       exact xNx g (s.size + 1) [31, 32, 33, 34, 37, 38, 39, 40, 41, 42, 43, 44, 45, 46, 47, 48, 49, 50, 51, 52, 53, 54, 55, 56, 57, 58, 59, 10, 60, 61, 62, 63, 64, 65, 66, 67, 68, 69, 70, 71, 72, 73, 74, 75, 76, 35, 36] [0, 1, 2, 3, 4, 5] (by omega) (by omega)
      ·have hi : hwF rs n (lF (sL s) s.size) = 0 := by unfold hwF; rw [if_neg (by omega)]
       obtain ⟨f1, f2⟩ := tF_n (hw := hwF rs n) (s := s) (.inl rfl) (w := ⟨#[]⟩) (by rw [hi]; rfl)
       have z1 : (tF (hwF rs n) (sL s) s.size).size + (ByteArray.mk #[]).size ≤ 1000000000 := by show _ + 0 ≤ _; omega
       have z2 : (tF (hwF rs n) (sL s) s.size ++ ByteArray.mk #[]).size + (ByteArray.mk #[10]).size ≤ 1000000000 := by rw [ByteArray.size_append]; show _ + 0 + 1 ≤ _; omega
       refine xR 63 [(3, dT q5), (7, dF q6), (18, dF q9), (23, dCat 9 (tF (hwF rs n) (sL s) s.size) ⟨#[]⟩ z1), (24, dCat 9 (tF (hwF rs n) (sL s) s.size ++ ⟨#[]⟩) ⟨#[10]⟩ z2), (27, dW ((↑(lF (sL s) s.size) : Int) + 1) ((↑((lF (sL s) s.size) + 1) : Int)) (by omega) (by omega) (by omega)), (30, dW ((↑s.size : Int) + 1) ((↑(s.size + 1) : Int)) (by omega) (by omega) (by omega))] ?_
       refine xSlK 7 (vV (.string ((tF (hwF rs n) (sL s) s.size ++ ⟨#[]⟩) ++ ⟨#[10]⟩))) (vV (.string (tF (hwF rs n) (sL s) (s.size + 1)))) (fun E _ => by rw [f1]) ?_
       refine xSlK 8 (vV (.int .i64 ((lF (sL s) s.size + 1 : Nat) : Int))) (vV (.int .i64 ((lF (sL s) (s.size + 1) : Nat) : Int))) (fun E _ => by rw [f2]) ?_
       exact xNx g (s.size + 1) [31, 32, 33, 34, 37, 38, 39, 40, 41, 42, 43, 44, 45, 46, 47, 48, 49, 50, 51, 52, 53, 54, 55, 56, 57, 58, 59, 10, 60, 61, 62, 63, 64, 65, 66, 67, 68, 69, 70, 71, 72, 73, 74, 75, 76, 35, 36] [0, 1, 2, 3, 4, 5] (by omega) (by omega)
    ·obtain rfl : x = s.size + 1 := by omega
     by_cases q10 : ((tF (hwF rs n) (sL s) (s.size + 1)).size : Int) > 8192
     ·refine xR 23 [(3, dF q5), (6, dT q10), (7, dC (hw8 _) [])] ?_
      exact (xRetC [])
     ·have ht : (tF (hwF rs n) (sL s) (s.size + 1)).size ≤ 8192 := by omega
      obtain ⟨q, hq, e1, e2, e3, e4⟩ := rmk_ok (hwF rs n) q3 (tF_end (hwF rs n) s) h1
      have k2 : ∀ C, Ct S0 C 15 [vV (.string (tF (hwF rs n) (sL s) (s.size + 1)))] [] [] [] [tD (namD st.G), tD (namD st.T), tD (hstD st.H), tD (aclD st.A)] (vT [vG [vW 0, vW 1, vW 2, vW 3], fl3 0 0 0]) := fun C => by
       have h := c_parseO (C := C) _ ht hq
       rw [e1, e2, e3, e4] at h
       exact h
      have k3 := fun C => c_same (C := C) st.G st.T st.H st.A (prA_pob q3 h1)
      refine xR 46 [(3, dF q5), (6, dF q10), (8, dC (k2 _) []), (22, dC (k3 _) [0, 1, 2, 3, 6, 7, 8, 9]), (25, dC (hw8 _) [])] ?_
      exact (xRetC [])
end Go.Proofs.YtbdgncndhnnjoaaGreatDoor

namespace Go.Proofs.YtbdgncndhnnjoaaGreatDoor
open Go.RowKit YtbdgncndhnnjoaaGreatDoor
set_option linter.unusedVariables false
set_option linter.unusedSimpArgs false
set_option maxHeartbeats 0
set_option maxRecDepth 1000000
def wdF2 (sl : ByteArray → ByteArray) (s : ByteArray) : ByteArray := sl (wd1 (clp s))
def rsF2 (sl : ByteArray → ByteArray) (s : ByteArray) : ByteArray := sl (rs1 (clp s))
def rst2 (sl : ByteArray → ByteArray) (r : ByteArray) : Nat → ByteArray
 | 0 => r
 | j + 1 => (rsF2 sl) ((rst2 sl) r j)
def wrd2 (sl : ByteArray → ByteArray) (w r : ByteArray) : Nat → ByteArray
 | 0 => w
 | j + 1 => (wdF2 sl) ((rst2 sl) r j)
def wrds2 (sl : ByteArray → ByteArray) (w r : ByteArray) : Nat → List ByteArray
 | 0 => []
 | j + 1 => (wrds2 sl) w r j ++ [(wrd2 sl) w r j]
def sels2 (sl : ByteArray → ByteArray) (w r : ByteArray) : Nat → List Sel
 | 0 => []
 | j + 1 => (sels2 sl) w r j ++ [⟨(selF ((wrd2 sl) w r j)).kind, (selF ((wrd2 sl) w r j)).name, ⟨(selF ((wrd2 sl) w r j)).net.v6, (selF ((wrd2 sl) w r j)).net.hi, (selF ((wrd2 sl) w r j)).net.lo, (selF ((wrd2 sl) w r j)).net.bits⟩⟩]
def mens2 (sl : ByteArray → ByteArray) (l : List Men) (line at_ : Nat) (w r : ByteArray) : Nat → List Men
 | 0 => l
 | j + 1 => (mens2 sl) l line at_ w r j ++ [⟨selF ((wrd2 sl) w r j), 196, line, (at_ + j : Nat)⟩]
def prts2 (sl : ByteArray → ByteArray) (w r : ByteArray) : Nat → List (Int × Int)
 | 0 => []
 | j + 1 => (prts2 sl) w r j ++ [(puV (daA ((wrd2 sl) w r j)), puV (daB ((wrd2 sl) w r j)))]
def grE2 (sl : ByteArray → ByteArray) (G T : List Nam) (H : List Hst) (line at_ : Nat) (w r : ByteArray) : Rd1 (NY Nam) :=
 bnd at_ (nnE (tellL G T H 3) G.length ((wrd2 sl) w r)) fun _ =>
 bnd (at_ + 3) (lsE nmC ⟨#[]⟩ ((wrd2 sl) ((wrd2 sl) w r 3) ((rst2 sl) r 3)) 65 0) fun j =>
 .ok ⟨(G ++ [⟨(wrd2 sl) w r 1, (wrds2 sl) ((wrd2 sl) w r 3) ((rst2 sl) r 3) j⟩]), (at_ + 3 + j), ((wrd2 sl) ((wrd2 sl) w r 3) ((rst2 sl) r 3) j), ((rst2 sl) ((rst2 sl) r 3) j)⟩
def tgE2 (sl : ByteArray → ByteArray) (G T : List Nam) (H : List Hst) (line at_ : Nat) (w r : ByteArray) : Rd1 (NY Nam) :=
 bnd at_ (nnE (tellL G T H 4) T.length ((wrd2 sl) w r)) fun _ =>
 bnd (at_ + 3) (lsE nmC ⟨#[]⟩ ((wrd2 sl) ((wrd2 sl) w r 3) ((rst2 sl) r 3)) 65 0) fun j =>
 .ok ⟨(T ++ [⟨(wrd2 sl) w r 1, (wrds2 sl) ((wrd2 sl) w r 3) ((rst2 sl) r 3) j⟩]), (at_ + 3 + j), ((wrd2 sl) ((wrd2 sl) w r 3) ((rst2 sl) r 3) j), ((rst2 sl) ((rst2 sl) r 3) j)⟩
def hsE2 (sl : ByteArray → ByteArray) (G T : List Nam) (H : List Hst) (line at_ : Nat) (w r : ByteArray) : Rd1 (NY Hst) :=
 bnd at_ (nnE (tellL G T H 5) H.length ((wrd2 sl) w r)) fun _ =>
 if ((wrd2 sl) w r 3).size = 0 then .error (190, (at_ + 3)) else
 if decide (Ip.rpE ((wrd2 sl) w r 3) = 0) = true then
 .ok ⟨(H ++ [⟨(wrd2 sl) w r 1, rpN ((wrd2 sl) w r 3)⟩]), (at_ + 3 + 1), ((wrd2 sl) w r 4), ((rst2 sl) r 4)⟩
 else .error (192, (at_ + 3))
def acE2 (sl : ByteArray → ByteArray) (A : List Acl) (M : List Men) (line at_ : Nat) (w r : ByteArray) : Rd1 AY :=
 if A.length < 64 then
 if ((wdF2 sl) r).size = 0 then .error (190, (at_ + 1)) else
 if prB ((wdF2 sl) r) = true then
 if (wdF2 sl) ((rsF2 sl) r) = ⟨#[102, 114, 111, 109]⟩ then
 bnd (at_ + 1 + 1 + 1) (lsE seC ⟨#[116, 111]⟩ ((wrd2 sl) ((wdF2 sl) ((rsF2 sl) ((rsF2 sl) r))) ((rsF2 sl) ((rsF2 sl) ((rsF2 sl) r)))) 65 0) fun j =>
 if (wrd2 sl) ((wdF2 sl) ((rsF2 sl) ((rsF2 sl) r))) ((rsF2 sl) ((rsF2 sl) ((rsF2 sl) r))) j = ⟨#[116, 111]⟩ then
 bnd (at_ + 1 + 1 + 1 + j + 1) (lsE seC ⟨#[112, 111, 114, 116, 115]⟩ ((wrd2 sl) ((wdF2 sl) ((rst2 sl) ((rsF2 sl) ((rsF2 sl) ((rsF2 sl) r))) j)) ((rsF2 sl) ((rst2 sl) ((rsF2 sl) ((rsF2 sl) ((rsF2 sl) r))) j))) 65 0) fun k =>
 if ((wrd2 sl) ((wdF2 sl) ((rst2 sl) ((rsF2 sl) ((rsF2 sl) ((rsF2 sl) r))) j)) ((rsF2 sl) ((rst2 sl) ((rsF2 sl) ((rsF2 sl) ((rsF2 sl) r))) j)) k).size = 0 then
 .ok ⟨(A ++ [⟨prF ((wdF2 sl) r), (sels2 sl) ((wdF2 sl) ((rsF2 sl) ((rsF2 sl) r))) ((rsF2 sl) ((rsF2 sl) ((rsF2 sl) r))) j, (sels2 sl) ((wdF2 sl) ((rst2 sl) ((rsF2 sl) ((rsF2 sl) ((rsF2 sl) r))) j)) ((rsF2 sl) ((rst2 sl) ((rsF2 sl) ((rsF2 sl) ((rsF2 sl) r))) j)) k, []⟩]), ((mens2 sl) ((mens2 sl) M line (at_ + 1 + 1 + 1) ((wdF2 sl) ((rsF2 sl) ((rsF2 sl) r))) ((rsF2 sl) ((rsF2 sl) ((rsF2 sl) r))) j) line (at_ + 1 + 1 + 1 + j + 1) ((wdF2 sl) ((rst2 sl) ((rsF2 sl) ((rsF2 sl) ((rsF2 sl) r))) j)) ((rsF2 sl) ((rst2 sl) ((rsF2 sl) ((rsF2 sl) ((rsF2 sl) r))) j)) k), (at_ + 1 + 1 + 1 + j + 1 + k), ((wrd2 sl) ((wdF2 sl) ((rst2 sl) ((rsF2 sl) ((rsF2 sl) ((rsF2 sl) r))) j)) ((rsF2 sl) ((rst2 sl) ((rsF2 sl) ((rsF2 sl) ((rsF2 sl) r))) j)) k), ((rst2 sl) ((rsF2 sl) ((rst2 sl) ((rsF2 sl) ((rsF2 sl) ((rsF2 sl) r))) j)) k)⟩
 else if (wrd2 sl) ((wdF2 sl) ((rst2 sl) ((rsF2 sl) ((rsF2 sl) ((rsF2 sl) r))) j)) ((rsF2 sl) ((rst2 sl) ((rsF2 sl) ((rsF2 sl) ((rsF2 sl) r))) j)) k = ⟨#[112, 111, 114, 116, 115]⟩ then
 bnd (at_ + 1 + 1 + 1 + j + 1 + k + 1) (lsE poC ⟨#[]⟩ ((wrd2 sl) ((wdF2 sl) ((rst2 sl) ((rsF2 sl) ((rst2 sl) ((rsF2 sl) ((rsF2 sl) ((rsF2 sl) r))) j)) k)) ((rsF2 sl) ((rst2 sl) ((rsF2 sl) ((rst2 sl) ((rsF2 sl) ((rsF2 sl) ((rsF2 sl) r))) j)) k))) 65 0) fun m =>
 .ok ⟨(A ++ [⟨prF ((wdF2 sl) r), (sels2 sl) ((wdF2 sl) ((rsF2 sl) ((rsF2 sl) r))) ((rsF2 sl) ((rsF2 sl) ((rsF2 sl) r))) j, (sels2 sl) ((wdF2 sl) ((rst2 sl) ((rsF2 sl) ((rsF2 sl) ((rsF2 sl) r))) j)) ((rsF2 sl) ((rst2 sl) ((rsF2 sl) ((rsF2 sl) ((rsF2 sl) r))) j)) k, (prts2 sl) ((wdF2 sl) ((rst2 sl) ((rsF2 sl) ((rst2 sl) ((rsF2 sl) ((rsF2 sl) ((rsF2 sl) r))) j)) k)) ((rsF2 sl) ((rst2 sl) ((rsF2 sl) ((rst2 sl) ((rsF2 sl) ((rsF2 sl) ((rsF2 sl) r))) j)) k)) m⟩]), ((mens2 sl) ((mens2 sl) M line (at_ + 1 + 1 + 1) ((wdF2 sl) ((rsF2 sl) ((rsF2 sl) r))) ((rsF2 sl) ((rsF2 sl) ((rsF2 sl) r))) j) line (at_ + 1 + 1 + 1 + j + 1) ((wdF2 sl) ((rst2 sl) ((rsF2 sl) ((rsF2 sl) ((rsF2 sl) r))) j)) ((rsF2 sl) ((rst2 sl) ((rsF2 sl) ((rsF2 sl) ((rsF2 sl) r))) j)) k), (at_ + 1 + 1 + 1 + j + 1 + k + 1 + m), ((wrd2 sl) ((wdF2 sl) ((rst2 sl) ((rsF2 sl) ((rst2 sl) ((rsF2 sl) ((rsF2 sl) ((rsF2 sl) r))) j)) k)) ((rsF2 sl) ((rst2 sl) ((rsF2 sl) ((rst2 sl) ((rsF2 sl) ((rsF2 sl) ((rsF2 sl) r))) j)) k)) m), ((rst2 sl) ((rsF2 sl) ((rst2 sl) ((rsF2 sl) ((rst2 sl) ((rsF2 sl) ((rsF2 sl) ((rsF2 sl) r))) j)) k)) m)⟩
 else .error (190, (at_ + 1 + 1 + 1 + j + 1 + k))
 else .error (190, (at_ + 1 + 1 + 1 + j))
 else .error (190, (at_ + 1 + 1))
 else .error (194, (at_ + 1))
 else .error (198, at_)
def lnE2 (sl : ByteArray → ByteArray) (s : PS) (n : Nat) (l : ByteArray) : Rd1 PS :=
 if ((wdF2 sl) l).size = 0 then .ok ⟨s.G, s.T, s.H, s.A, s.M, 0⟩ else
 if (wdF2 sl) l = wG then (match (grE2 sl) s.G s.T s.H n 0 ((wdF2 sl) l) ((rsF2 sl) l) with | .error x => .error x | .ok y => finE y.w ⟨y.L, s.T, s.H, s.A, s.M, y.q⟩) else
 if (wdF2 sl) l = wT then (match (tgE2 sl) s.G s.T s.H n 0 ((wdF2 sl) l) ((rsF2 sl) l) with | .error x => .error x | .ok y => finE y.w ⟨s.G, y.L, s.H, s.A, s.M, y.q⟩) else
 if (wdF2 sl) l = wH then (match (hsE2 sl) s.G s.T s.H n 0 ((wdF2 sl) l) ((rsF2 sl) l) with | .error x => .error x | .ok y => finE y.w ⟨s.G, s.T, y.L, s.A, s.M, y.q⟩) else
 if (wdF2 sl) l = wA then (match (acE2 sl) s.A s.M n 0 ((wdF2 sl) l) ((rsF2 sl) l) with | .error x => .error x | .ok y => finE y.w ⟨s.G, s.T, s.H, y.A, y.M, y.q⟩) else
 .error (190, 0)
def lnsE2 (sl : ByteArray → ByteArray) (ls : List ByteArray) : Nat → Except (Int × Int × Int) PS
 | 0 => .ok ps0
 | x + 1 => match (lnsE2 sl) ls x with
  | .error e => .error e
  | .ok s => match (lnE2 sl) s (x + 1) (Ip.tg ls x) with
   | .error (e, p) => .error (e, ((x + 1 : Nat) : Int), (p : Int))
   | .ok s => .ok s
def prA2 (sl : ByteArray → ByteArray) (t : ByteArray) : Except (Int × Int × Int) PS := match (lnsE2 sl) (Ip.spl t nlB) (Ip.spl t nlB).length with
 | .error e => .error e
 | .ok s => match s.M.find? (fun m => !mtl s.G s.T s.H m) with
  | none => .ok s
  | some m => .error (m.e, m.line, m.at_)
theorem sld_id : sld = fun x => x := funext seal_eq
theorem prA_mir : prA = prA2 sld := by kernel_rfl
def litA : ByteArray := ⟨#[103, 114, 111, 117, 112, 32, 100, 101, 118, 32, 61, 32, 97, 110, 110, 32, 98, 111, 98, 10, 116, 97, 103, 32, 119, 101, 98, 32, 61, 32, 97, 110, 110, 10, 97, 99, 99, 101, 112, 116, 32, 116, 99, 112, 44, 117, 100, 112, 32, 102, 114, 111, 109, 32, 103, 114, 111, 117, 112, 58, 100, 101, 118, 32, 110, 101, 116, 58, 49, 48, 46, 48, 46, 48, 46, 48, 47, 56, 32, 116, 111, 32, 116, 97, 103, 58, 119, 101, 98, 32, 112, 111, 114, 116, 115, 32, 56, 48, 32, 52, 52, 51, 45, 52, 52, 52, 10]⟩
def litB : ByteArray := ⟨#[97, 99, 99, 101, 112, 116, 32, 97, 110, 121, 32, 102, 114, 111, 109, 32, 116, 97, 103, 58, 120, 32, 116, 111, 32, 42]⟩
def okS : Except (Int × Int × Int) PS → PS | .ok s => s | .error _ => ps0
def polA : PS := okS (prA2 (fun x => x) litA)
theorem e1 : prA litB = .error (196, 1, 3) := by
 rw [prA_mir, sld_id]
 kernel_rfl
theorem e2 : prA litA = .ok polA := by
 rw [prA_mir, sld_id]
 kernel_rfl
end Go.Proofs.YtbdgncndhnnjoaaGreatDoor

namespace Go.Proofs.YtbdgncndhnnjoaaGreatDoor
open Go.RowKit YtbdgncndhnnjoaaGreatDoor
set_option linter.unusedVariables false
set_option linter.unusedSimpArgs false
set_option maxHeartbeats 0
set_option maxRecDepth 1000000
variable {C : World → Prop}
def bDev : ByteArray := ⟨#[100, 101, 118]⟩
def bWeb : ByteArray := ⟨#[119, 101, 98]⟩
def bAnn : ByteArray := ⟨#[97, 110, 110]⟩
def bBob : ByteArray := ⟨#[98, 111, 98]⟩
def gA : List Nam := [⟨bDev, [bAnn, bBob]⟩]
def tA : List Nam := [⟨bWeb, [bAnn]⟩]
def aA : List Acl := [⟨[6, 17], [⟨3, bDev, net0⟩, ⟨6, ⟨#[]⟩, ⟨false, 0, 167772160, 8⟩⟩], [⟨4, bWeb, net0⟩], [(80, 80), (443, 444)]⟩]
theorem pG1 : polA.G = gA := by kernel_rfl
theorem pT1 : polA.T = tA := by kernel_rfl
theorem pH1 : polA.H = [] := by kernel_rfl
theorem pA1 : polA.A = aA := by kernel_rfl
theorem mA : mayL gA tA [] aA = true := by kernel_rfl
theorem xA : txtL gA tA [] aA = litA := by kernel_rfl
theorem popA : PoP gA tA [] aA := ⟨by decide, by decide, by decide, by decide, by decide, by decide, by decide, fun x hx => by
 obtain rfl : x = aA.getD 0 ⟨[], [], [], []⟩ := by
  unfold aA at hx ⊢
  simpa using hx
 exact ⟨by unfold selP; exact of_decide_eq_true (by kernel_rfl), by unfold selP; exact of_decide_eq_true (by kernel_rfl), by decide, by decide, by decide, by decide, by decide⟩⟩
theorem c_pA : Ct S0 C 15 [vV (.string litA)] [] [] [] [tD (namD gA), tD (namD tA), tD (hstD []), tD (aclD aA)] (vT [vG [vW 0, vW 1, vW 2, vW 3], fl3 0 0 0]) := by
 have h := c_parseO (C := C) litA (by decide) e2
 rw [pG1, pT1, pH1, pA1] at h
 exact h
theorem c_pB : Ct S0 C 15 [vV (.string litB)] [] [] [] [] (vT [vG [vV (.slice none 0 0), vV (.slice none 0 0), vV (.slice none 0 0), vV (.slice none 0 0)], fl3 196 1 3]) := c_parseE (C := C) litB (by decide) (by decide) e1
theorem szA : litA.size = 107 := by kernel_rfl
theorem c_tA : Ct S0 C 10 [vG [vW 0, vW 1, vW 2, vW 3]] [tD (namD gA), tD (namD tA), tD (hstD []), tD (aclD aA)] [] [] [] (vT [vV (.string litA), vV (.int .i64 0)]) := by
 have h := c_TextL (C := C) gA tA [] aA popA mA (by rw [xA, szA]; decide)
 rw [xA, if_neg (by rw [szA]; decide)] at h
 exact h
theorem lab1 : labF ⟨#[97, 46, 98]⟩ = true := by kernel_rfl
theorem lab2 : labF ⟨#[65]⟩ = false := by kernel_rfl
theorem works : ∀ C, Ct S0 C 8 [] [] [] [] [] (vV (.bool true)) := fun C => by
 have k1 := fun C => c_pA (C := C)
 have k2 := fun C => c_pB (C := C)
 have k3 := fun C => c_tA (C := C)
 have k4 := fun C => (c_label (C := C) ⟨#[97, 46, 98]⟩).rb lab1
 have k5 := fun C => (c_label (C := C) ⟨#[65]⟩).rb lab2
 refine xIn Tryz.f8 fun E0 w0 hL hC hk => ?_
 refine xR 50 [(1, dC (k1 _) []), (9, dC (k2 _) []), (18, dC (k3 _) [0, 1, 2, 3]), (30, dLenR 24 3 3 4 57 aclEl aA aA.length rfl)] ?_
 refine xOpen (D := aclD aA) 3 fun v0 T0 hv => ?_
 obtain ⟨F, hS, hE⟩ := RowD.sl hv
 obtain ⟨cs, Te, hel, hcl, hcs, hT⟩ := hE 0 _ rfl
 obtain ⟨v1, v2, v3, v4, T1, T2, T3, T4, rfl, rfl, q1, q2, q3, q4⟩ := hel
 obtain ⟨b2, c2, rfl⟩ := RowD.len q2
 obtain ⟨b4, c4, rfl⟩ := RowD.len q4
 have hS2 : Sl T0 4 1 (fun _ j => [v1, .slice b2 2 c2, v3, .slice b4 2 c4].getD j undef) v0 := hS.congr fun i j hi hj => by
  obtain rfl : i = 0 := by
   have : aA.length = 1 := rfl
   omega
  match j, hj with
  | 0, _ => exact hcs 0 _ rfl
  | 1, _ => exact hcs 1 _ rfl
  | 2, _ => exact hcs 2 _ rfl
  | 3, _ => exact hcs 3 _ rfl
 obtain ⟨base, cap, g, o, rfl, H⟩ := hS2
 refine xR 12 [(0, dIxR 24 H cap 0 (by decide)), (2, dLdR1 54 3 H 0 1 (o + 0 * 4 + 1) (by decide)), (9, dIxR 24 H cap 0 (by decide)), (11, dLdR1 55 3 H 0 3 (o + 0 * 4 + 3) (by decide))] ?_
 refine xR 26 [(18, dC (k4 _) []), (21, dC (k5 _) [])] ?_
 exact (xRetC [])
end Go.Proofs.YtbdgncndhnnjoaaGreatDoor

namespace Go.Proofs.YtbdgncndhnnjoaaGreatDoor
open Go.RowKit YtbdgncndhnnjoaaGreatDoor
set_option maxRecDepth 100000
set_option linter.unusedVariables false
set_option linter.unusedSimpArgs false
def lay9 : List (String × DataW Unit) := [("math/bits.deBruijn32tab", Rows.laid_math_bits_deBruijn32tab), ("math/bits.deBruijn64tab", Rows.laid_math_bits_deBruijn64tab), ("internal/strconv.uint64pow10", Rows.laid_internal_strconv_uint64pow10), ("unicode/utf8.acceptRanges", Rows.laid_unicode_utf8_acceptRanges), ("strconv.ErrRange", Rows.laid_strconv_ErrRange), ("strconv.ErrSyntax", Rows.laid_strconv_ErrSyntax), ("isthmus/policy.protoNames", Rows.laid_isthmus_policy_protoNames), ("isthmus/policy.selNames", Rows.laid_isthmus_policy_selNames), ("unicode/utf8.first", Rows.laid_unicode_utf8_first)]
def db64 : List Int := [0, 1, 56, 2, 57, 49, 28, 3, 61, 58, 42, 50, 38, 29, 17, 4, 62, 47, 59, 36, 45, 43, 51, 22, 53, 39, 33, 30, 24, 18, 12, 5, 63, 55, 48, 27, 60, 41, 37, 16, 46, 35, 44, 21, 52, 32, 23, 11, 54, 26, 40, 15, 34, 20, 31, 10, 25, 14, 19, 9, 13, 8, 7, 6]
theorem tab_of {W : World} {name : String} {k : IntKind} {zs : List Int} {g : Nat} {t e : TypeId} {n : Nat} {d : DataW Unit} (hd : d = Lib.tabData k zs) (hg : Tryz.prog.globalNamed name = some g) (hty : (Tryz.prog.globals[g]?).map (·.type) = some t) (ht : Tryz.prog.underlying t = some (.array n e)) (he : Tryz.prog.underlying e = some (.int k)) (hce : Tryz.prog.cellsOf e = 1) (hct : Tryz.prog.cellsOf t = n)
  {g' : Nat} {t' : TypeId} {cs : Array Value} {fuel : Nat} {p : List MemPlace} (hg' : Tryz.prog.globalNamed name = some g') (ht' : (Tryz.prog.globals[g']?).map (·.type) = some t') (hv : W.var? Tryz.prog name = some cs) (h : DataW.trod (fun _ => ()) Tryz.prog W 0 (fun _ => true) false fuel t' cs.toList = some (d, p)) : Lib.TabIs Tryz.prog W name k zs := by
 subst hd
 obtain rfl := Option.some.inj (hg.symm.trans hg')
 obtain rfl := Option.some.inj (hty.symm.trans ht')
 unfold Lib.TabIs
 rw [hv, ← Lib.cells_of_tab ht he hce hct h]
theorem err_of {W : World} {name : String} {g : Nat} {nm : String} {d : DataW Unit} (hg : Tryz.prog.globalNamed name = some g) (hty : (Tryz.prog.globals[g]?).map (·.type) = some 89)
  {g' : Nat} {t' : TypeId} {cs : Array Value} {fuel : Nat} {p : List MemPlace} (hg' : Tryz.prog.globalNamed name = some g') (ht' : (Tryz.prog.globals[g']?).map (·.type) = some t') (hv : W.var? Tryz.prog name = some cs) (h : DataW.trod (fun _ => ()) Tryz.prog W 0 (fun _ => true) false fuel t' cs.toList = some (.iface nm d, p)) : ∃ t p, W.cell? ⟨g, 0, none⟩ = some (.iface t p) := by
 obtain rfl := Option.some.inj (hg.symm.trans hg')
 obtain rfl := Option.some.inj (hty.symm.trans ht')
 obtain ⟨_, u, v, hc, _⟩ := iface_of_trod Tryz.underlying89 h
 refine ⟨u, v, ?_⟩
 rw [World.var?_cell hg hv 0, ← Array.getElem?_toList, hc]
 rfl
theorem var_lt {W : World} {name : String} {g : Nat} {cs : Array Value} (hg : Tryz.prog.globalNamed name = some g) (hv : W.var? Tryz.prog name = some cs) : g < W.heap.size := by
 unfold World.var? at hv
 rw [hg, Option.bind_some] at hv
 by_cases h : g < W.heap.size
 ·exact h
 ·rw [Array.getElem?_eq_none (by omega)] at hv
  cases hv
theorem ba_list {s : ByteArray} {l : List UInt8} (h : s.data.toList = l) : s = ⟨l.toArray⟩ := by
 subst h
 rfl
theorem us_of {H : Type} {enc : TypeId × Value → H} {w : World} {base : Nat} {sp : Nat → Bool} {held : Bool} {fuel : Nat} {t : TypeId} {f1 f2 : Field} {c0 c1 : Value} {k : Int} {s : List UInt8} {p : List MemPlace}
  (ht : Tryz.prog.underlying t = some (.struct #[f1, f2])) (hc : Tryz.prog.cellsOf t = 2) (h1 : f1.type = 5) (o1 : f1.offset = 0) (h2 : f2.type = 9) (o2 : f2.offset = 1)
  (h : DataW.trod enc Tryz.prog w base sp held fuel t [c0, c1] = some (.agg [.lit (.int .u8 k), .lit (.string s)], p)) : c0 = .int .u8 k ∧ c1 = .string ⟨s.toArray⟩ := by
 have c5 : Tryz.prog.cellsOf 5 = 1 := by kernel_rfl
 have c9 : Tryz.prog.cellsOf 9 = 1 := by kernel_rfl
 cases fuel with
 | zero => simp [DataW.trod] at h
 | succ fuel =>
  simp only [DataW.trod, ht, hc] at h
  split at h
  ·simp only [Option.map_eq_some_iff, List.mapM_cons, List.mapM_nil, Option.bind_eq_bind, Option.bind_eq_some_iff, Option.pure_def, Option.some.injEq, h1, o1, h2, o2, c5, c9, List.drop, List.take] at h
   obtain ⟨xs, ⟨y0, k0, _, ⟨y1, k1, _, rfl, rfl⟩, rfl⟩, hx⟩ := h
   obtain ⟨z, e0, q0, _⟩ := DataW.trod_int Tryz.underlying5 k0
   obtain ⟨u, e1, q1, _⟩ := DataW.trod_string Tryz.underlying9 k1
   subst q0
   subst q1
   simp only [List.cons.injEq, and_true] at e0 e1
   subst e0
   subst e1
   simp at hx
   obtain ⟨⟨r0, r1⟩, _⟩ := hx
   subst r0
   exact ⟨rfl, by rw [ba_list r1]⟩
  ·cases h
theorem rows_of {W : World} {name : String} {g : Nat} {t e : TypeId} {n : Nat} {L : List (Int × List UInt8)} {f1 f2 : Field} (hn : L.length = n) (hg : Tryz.prog.globalNamed name = some g) (hty : (Tryz.prog.globals[g]?).map (·.type) = some t) (ht : Tryz.prog.underlying t = some (.array n e)) (he : Tryz.prog.underlying e = some (.struct #[f1, f2])) (hce : Tryz.prog.cellsOf e = 2) (hct : Tryz.prog.cellsOf t = n * 2) (h1 : f1.type = 5) (o1 : f1.offset = 0) (h2 : f2.type = 9) (o2 : f2.offset = 1)
  {g' : Nat} {t' : TypeId} {cs : Array Value} {fuel : Nat} {p : List MemPlace} (hg' : Tryz.prog.globalNamed name = some g') (ht' : (Tryz.prog.globals[g']?).map (·.type) = some t') (hv : W.var? Tryz.prog name = some cs) (h : DataW.trod (fun _ => ()) Tryz.prog W 0 (fun _ => true) false fuel t' cs.toList = some (.agg (L.map fun x => .agg [.lit (.int .u8 x.1), .lit (.string x.2)]), p)) : W.rangeAt g 0 (L.flatMap fun x => [.int .u8 x.1, .string ⟨x.2.toArray⟩]) := by
 obtain rfl := Option.some.inj (hg.symm.trans hg')
 obtain rfl := Option.some.inj (hty.symm.trans ht')
 have key : cs.toList = L.flatMap fun x => [.int .u8 x.1, .string ⟨x.2.toArray⟩] := by
  generalize cs.toList = l at h
  cases fuel with
  | zero => simp [DataW.trod] at h
  | succ fuel =>
   simp only [DataW.trod, ht, hce, hct] at h
   split at h
   ·rename_i hl
    obtain ⟨xs, hm, hx⟩ := Option.map_eq_some_iff.1 h
    have hxs : xs.map (·.1) = L.map fun x => (.agg [.lit (.int .u8 x.1), .lit (.string x.2)] : DataW Unit) := by
     have := congrArg Prod.fst hx
     simpa using this
    have hat : ∀ i, i < n → ∃ c0 c1, (l.drop (i * 2)).take 2 = [c0, c1] ∧ ∀ x, L[i]? = some x → c0 = .int .u8 x.1 ∧ c1 = .string ⟨x.2.toArray⟩ := fun i hi => by
     obtain ⟨b, hb, hf⟩ := Lib.mapM_at hm i i (by simp [hi])
     have hlen : ((l.drop (i * 2)).take 2).length = 2 := by
      rw [List.length_take, List.length_drop, hl]
      omega
     match hq : (l.drop (i * 2)).take 2, hlen with
     | [c0, c1], _ =>
      refine ⟨c0, c1, rfl, fun x hx => ?_⟩
      have h2' : (xs.map (·.1))[i]? = some b.1 := by simp [hb]
      rw [hxs] at h2'
      simp only [List.getElem?_map, hx, Option.map_some, Option.some.injEq] at h2'
      rw [hq] at hf
      rcases b with ⟨d, pp⟩
      simp only at h2'
      subst h2'
      exact us_of he hce h1 o1 h2 o2 hf
    clear hm hx hxs h
    clear ht he hce hct hty hg hg' ht' hv
    induction n generalizing l L with
    | zero =>
     have : L = [] := List.length_eq_zero_iff.1 hn
     subst this
     exact List.length_eq_zero_iff.1 (by omega)
    | succ n ih =>
     rcases L with _ | ⟨x, L⟩
     ·cases hn
     ·obtain ⟨c0, c1, q1, q2⟩ := hat 0 (by omega)
      obtain ⟨r1, r2⟩ := q2 x rfl
      have e : l = (l.drop 0).take 2 ++ l.drop 2 := by simp
      have := ih (L := L) (l := l.drop 2) (by simpa using hn) (by rw [List.length_drop]; omega) fun i hi => by
       obtain ⟨d0, d1, p1, p2⟩ := hat (i + 1) (by omega)
       refine ⟨d0, d1, ?_, fun y hy => p2 y (by simpa using hy)⟩
       rw [← p1, List.drop_drop]
       congr 2
       omega
      rw [e, this]
      have q1' : (l.drop 0).take 2 = [c0, c1] := by simpa using q1
      rw [q1', r1, r2]
      rfl
   ·cases h
 intro j x hx
 rw [World.var?_cell hg hv, ← Array.getElem?_toList, key, Nat.zero_add]
 exact hx
theorem laid_of {W : World} (h0 : laidMetH Tryz.prog lay9 W) (hs : W.ShapedOpen Tryz.prog) : LaidP W := by
 have h : laidMet Tryz.prog lay9 W := h0
 obtain ⟨ps, ⟨_, _, _, _, _, _, _, _, _, _, ⟨g2, t2, c2, f2, p2, _, hg2, ht2, hv2, hd2, ⟨g3, t3, c3, f3, p3, _, hg3, ht3, hv3, hd3, ⟨_, _, _, _, _, _, _, _, hv4, _, ⟨g5, t5, c5, f5, p5, _, hg5, ht5, hv5, hd5, ⟨g6, t6, c6, f6, p6, _, hg6, ht6, hv6, hd6, ⟨g7, t7, c7, f7, p7, _, hg7, ht7, hv7, hd7, ⟨g8, t8, c8, f8, p8, _, hg8, ht8, hv8, hd8, _, _⟩, _⟩, _⟩, _⟩, _⟩, _⟩, _⟩, _⟩, _⟩ := h
 have hsy := err_of (g := 8) (nm := "*errors.errorString") (by kernel_rfl) (by kernel_rfl) hg6 ht6 hv6 hd6
 have hrg := err_of (g := 9) (nm := "*errors.errorString") (by kernel_rfl) (by kernel_rfl) hg5 ht5 hv5 hd5
 refine ⟨⟨cell_of_shapedOpen_int hs (g := 2) (t := 3) (zero := #[.int .i64 0]) (by decide) (by kernel_rfl) rfl (by kernel_rfl) (by kernel_rfl) Tryz.underlying3, ?_, hsy, hrg, ?_, ?_⟩, ?_, ?_⟩
 ·exact tab_of (g := 3) (by kernel_rfl) (by kernel_rfl) (by kernel_rfl) Tryz.underlying243 Tryz.underlying47 (by kernel_rfl) (by kernel_rfl) hg3 ht3 hv3 hd3
 ·have := tab_of (g := 7) (zs := db64) (by kernel_rfl) (by kernel_rfl) (by kernel_rfl) Tryz.underlying261 Tryz.underlying5 (by kernel_rfl) (by kernel_rfl) hg2 ht2 hv2 hd2
  exact this.cell (by kernel_rfl) 15 (by decide)
 ·have hg : Tryz.prog.globalNamed "strconv.ErrRange" = some 9 := by kernel_rfl
  have := var_lt hg hv5
  omega
 ·exact rows_of (g := 0) (L := [(1, [105, 99, 109, 112]), (6, [116, 99, 112]), (17, [117, 100, 112])]) rfl (by kernel_rfl) (by kernel_rfl) Tryz.underlying145 Tryz.underlying144 (by kernel_rfl) (by kernel_rfl) rfl rfl rfl rfl hg7 ht7 hv7 hd7
 ·exact rows_of (g := 1) (L := [(2, [117, 115, 101, 114]), (3, [103, 114, 111, 117, 112]), (4, [116, 97, 103]), (5, [104, 111, 115, 116]), (6, [110, 101, 116])]) rfl (by kernel_rfl) (by kernel_rfl) Tryz.underlying154 Tryz.underlying153 (by kernel_rfl) (by kernel_rfl) rfl rfl rfl rfl hg8 ht8 hv8 hd8
theorem lay_witness (os : Os) (args : Array Value) : laidMetH Tryz.prog lay9 ((World.laidAll Tryz.prog os lay9).forCall (fun _ _ => 0) ⟨#[], args, []⟩).memory := laidMet_laidAll (laid := lay9) args (by kernel_rfl) (by kernel_rfl)
theorem handed_laid {H : Type} {enc : TypeId × Value → H} {os : Os} {f : FuncId} {fn : Func} {s : ChangeSpec} {conds : List PathCond} (own : ownKnob Tryz.prog.godebug = none) (started : os.Started) (noInit : Tryz.prog.inits.idxOf? f = none) (hfn : Tryz.prog.funcs[f]? = some fn)
  (wit : ∃ (w : World) (tape : Tape) (i : Input), w.os = os ∧ (w.forCall tape i).Shaped Tryz.checked.prog ∧ i.vars = [] ∧ Input.okWide Tryz.checked.prog (w.forCall tape i) .any w.heap.size f i ∧ ((s.pre enc Tryz.checked.prog fn conds false (w.forCall tape i).memory i.args ∧ laidMetH Tryz.checked.prog lay9 (w.forCall tape i).memory) ∧ sizedMet enc Tryz.checked.prog fn (OpenSpec.ofChange s) false (w.forCall tape i).memory i.args) ∧ ({} : Assume).holds Tryz.checked.prog (lone (Frame.enter Tryz.checked.prog f i.args .normal) [] (w.forCall tape i)))
  (contract : ∀ (W : World) (base : Nat) (args : Array Value) (ds gs : List (DataW H)) (before : List MemPlace), (∀ (j : Nat) t v, fn.params[j]? = some t → args[j]? = some v → Value.okWide Tryz.prog W .any base t v) → DataW.Whole enc Tryz.prog fn.params.toList s.vars false W args.toList ds gs before → LaidP W →
   Calls Tryz.prog f args W fun e W' => ∃ v, e = .returned v ∧ s.post enc Tryz.prog fn false true false false W args v W') :
  ReturnsInHanded {} Tryz.checked os f .any (fun w args => (s.pre enc Tryz.checked.prog fn conds false w args ∧ laidMetH Tryz.checked.prog lay9 w) ∧ sizedMet enc Tryz.checked.prog fn (OpenSpec.ofChange s) false w args) (s.post enc Tryz.checked.prog fn false true false false) := by
 refine returnsInHanded_of_calls own started noInit wit fun w tape i _ hsh _ hok hpre _ => ?_
 obtain ⟨_, _, _, fn2, hfn2, _, _, _, _, hval⟩ := hok
 obtain rfl : fn2 = fn := Option.some.inj (hfn2.symm.trans hfn)
 obtain ⟨⟨⟨ds, gs, before, hw, _⟩, hx⟩, _⟩ := hpre
 have hx2 : laidMetH Tryz.prog lay9 (w.forCall tape i) := laidMetH.of_heap (by rfl) hx
 have hl : LaidP (w.forCall tape i) := laid_of hx2 hsh
 have hw' := DataW.Whole.of_heap (w' := w.forCall tape i) (by rfl) hw
 refine (contract (w.forCall tape i) w.heap.size i.args ds gs before hval hw' hl).mono fun e W' ⟨v, he, hp⟩ => ?_
 subst he
 exact ChangeSpec.post_blind hp
theorem laidOut : laidOutB Tryz.prog = true := by kernel_rfl
theorem ownNone : ownKnob Tryz.prog.godebug = none := by kernel_rfl
section
variable {W : World} {b0 : Nat} {v : Value}
theorem cell_str (h : Cell.okWide Tryz.prog W .any b0 9 v) : ∃ s, v = .string s := by
 simp only [Cell.okWide, Tryz.underlying9] at h
 cases v <;> simp_all [Cell.ok, Tryz.underlying9]
theorem op9 (h : Value.okWide Tryz.prog W .any b0 9 v) : ∃ s, v = .string s := by
 simp only [Value.okWide, Tryz.underlying9] at h
 exact cell_str h
end
end Go.Proofs.YtbdgncndhnnjoaaGreatDoor

namespace Go.Proofs.YtbdgncndhnnjoaaGreatDoor
open Go.RowKit Go.Deep YtbdgncndhnnjoaaGreatDoor
set_option maxRecDepth 100000
set_option linter.unusedVariables false
set_option linter.unusedSimpArgs false
theorem wf8 {z : Int} (h : (Lit.int .u8 z).wf = true) : 0 ≤ z ∧ z < 256 := by
 have : 0 ≤ z ∧ z ≤ 255 := by simpa [Lit.wf, IntKind.min, IntKind.max, IntKind.signed, IntKind.bits] using h
 omega
theorem cell_lt {W : World} {g k : Nat} {v : Value} (h : W.cell? ⟨g, k, none⟩ = some v) : g < W.heap.size := by
 unfold World.cell? at h
 split at h
 ·rename_i h1
  exact (Array.getElem?_eq_some_iff.1 h1).1
 ·cases h
theorem row_u8 {H : Type} {enc : TypeId × Value → H} {W : World} {m : Nat} {v : Value} {y : DataW H × List MemPlace} (h : DataW.trod enc Tryz.prog W 0 (fun _ => true) true m 41 [v] = some y) : ∃ (base : Option Addr) (n cap g o : Nat) (rs : Nat → Int), v = .slice base n cap ∧ (0 < n → base = some ⟨g, o, none⟩) ∧ ∀ i, i < n → W.cell? ⟨g, o + i, none⟩ = some (.int .u8 (rs i)) ∧ 0 ≤ rs i ∧ rs i < 256 := by
 rcases open_slice1 (P := Tryz.prog) Tryz.underlying41 (by kernel_rfl) h with ⟨hc, -⟩ | ⟨a, len, cap, k, q, V, D, Pl, hc, -, hl, -, hk, -, hx⟩
 ·simp only [List.cons.injEq, and_true] at hc
  exact ⟨none, 0, 0, 0, 0, fun _ => 0, hc, fun h => by omega, fun i hi => by omega⟩
 ·simp only [List.cons.injEq, and_true] at hc
  simp only [if_true] at hk
  subst hk
  obtain ⟨g, o, spot⟩ := a
  have hs : 0 < len → spot = none := fun h0 => World.cell?_spot (hx 0 (by omega)).1
  have hv : ∀ i, i < len → ∃ z : Int, V i = .int .u8 z ∧ 0 ≤ z ∧ z < 256 := fun i hi => by
   obtain ⟨z, e1, -, e3⟩ := DataW.trod_int Tryz.underlying5 (hx i (by omega)).2
   simp only [List.cons.injEq, and_true] at e1
   exact ⟨z, e1, wf8 e3⟩
  obtain ⟨rs, hr⟩ := choose_lt hv
  refine ⟨some ⟨g, o, spot⟩, len, k, g, o, rs, hc, fun h0 => by rw [hs h0], fun i hi => ⟨?_, (hr i hi).2⟩⟩
  have h1 := (hx i (by omega)).1
  rw [(hr i hi).1, hs (by omega)] at h1
  rw [← h1, Addr.add_lit]
end Go.Proofs.YtbdgncndhnnjoaaGreatDoor
