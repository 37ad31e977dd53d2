/- Part 5 of the walks and facts. -/
import Derived.Test.YtbdgncndhnnjoaaGreatDoorRk4
import Derived.Lib.IndexAny
import Derived.Lib.SplitLaws
namespace Go.Proofs.YtbdgncndhnnjoaaGreatDoor
open Go.RowKit YtbdgncndhnnjoaaGreatDoor
set_option linter.unusedVariables false
set_option linter.unusedSimpArgs false
set_option maxHeartbeats 0
set_option maxRecDepth 1000000
theorem decode_cont (s : ByteArray) (i k : Nat) (h1 : 1 ≤ k) (h2 : k < (Utf8.decode s i).2) : i + k < s.size ∧ (s.get! (i + k)).toNat / 64 = 2 := by
 unfold Utf8.decode at h2
 simp only at h2
 have hk : k = 1 ∨ k = 2 ∨ k = 3 ∨ 3 < k := by omega
 repeat' split at h2
 all_goals rcases hk with rfl | rfl | rfl | hk
 all_goals first
  | (exfalso; omega)
  | (rename_i hc _; simp at hc; omega)
  | (rename_i hc; simp at hc; omega)
theorem ir_all (r : Int) (h : 128 ≤ r) (hr : r ≤ 2147483647) (w : World) : Calls Tryz.prog 178 #[.string blB, .int .i32 r] w fun e w' => e = .returned (.int .i64 (-1)) ∧ Below w.heap.size w w' := by
 by_cases hne : r = 65533
 ·subst hne
  exact ir_bad w
 ·exact ir_good r h hr hne w
theorem ir_low (r : Int) (h0 : 0 ≤ r) (h : r < 128) (w : World) : Calls Tryz.prog 178 #[.string blB, .int .i32 r] w fun e w' => e = .returned (.int .i64 (Lib.indexByte [32, 9] r.toNat.toUInt8)) ∧ w' = w :=
 Any.strings_IndexRune_ascii (ρ := Ip.repRen) { Ip.lays153 with } blB r w h0 h
theorem below_iterAt {B k : Nat} {a w : World} (h : Below B a w) (s : ByteArray) (p : Nat) (hk : B ≤ k) : Below B a (w.iterAt k s p) :=
 h.trans ⟨rfl, rfl, rfl, by show _ ≤ (Array.setIfInBounds _ _ _).size; simp, fun j hj => by
  show (w.heap.setIfInBounds k _)[j]? = _
  rw [Array.getElem?_setIfInBounds, if_neg (by omega)]⟩
theorem ix_short (s : ByteArray) (h8 : s.size ≤ 8) (w : World) : Calls Tryz.prog 139 #[.string s, .string blB] w fun e w' => e = .returned (.int .i64 (Lib.indexAny s.data.toList [32, 9])) ∧ Below w.heap.size w w' := by
 have hB : blB.size = 2 := rfl
 have h8z : ¬ (8 : Int) < (s.size : Int) := by omega
 go_enter Tryz.func139, Tryz.ntmps139
 go_wp2
 go_loopg [9, 10] s.size (fun g _ _ wx => ∃ i : Nat, i + g = s.size ∧ wx.heap[w.heap.size]? = some (.stringIter s i) ∧ Below w.heap.size w wx ∧ Lib.NoAny s.data.toList [32, 9] i)
 case atStart => exact ⟨0, by omega, by simp [World.iter_heap], (Below.refl _ _).alloc (Nat.le_refl _) _, Lib.NoAny.zero _ _⟩
 case round =>
  obtain ⟨i, hig, hh, hbl, hno⟩ := hrel
  have HN : Aside (Lib.NoAny s.data.toList [32, 9] i) := hno
  clear hno
  cases gk with
  | zero =>
   obtain rfl : i = s.size := by omega
   have hnx := fun ty => Lib.run_next_end_at (P := Tryz.prog) _ w.heap.size s s.size ty hh (by omega)
   go_wp2
   go_ret
   exact ⟨by rw [Lib.indexAny_none (by rw [← Lib.size_eq]; exact HN.out)]; rfl, hbl⟩
  | succ g =>
   have hi : i < s.size := by omega
   have hk := Lib.iterAt_heap
   obtain ⟨x, hx⟩ : ∃ x : UInt8, s[i]'hi = x := ⟨_, rfl⟩
   have hxl : s.data.toList[i]? = some x := by rw [← hx]; exact Lib.data_getElem? s i hi
   by_cases hx128 : x.toNat < 128
   ·have hnx := fun ty => Lib.run_next_ascii_at (P := Tryz.prog) _ w.heap.size s i ty hh hi (by rw [hx]; exact hx128)
    rw [hx] at hnx
    have hh2 := hk _ _ _ _ (i + 1) hh
    have hb2 := below_iterAt hbl s (i + 1) (Nat.le_refl w.heap.size)
    have hcon := Lib.contains_iff_indexByte [32, 9] x
    have hback : ((x.toNat : Int)).toNat.toUInt8 = x := by simp
    have hir := fun w => ir_low (x.toNat : Int) (by omega) (by omega) w
    rw [hback] at hir
    have Hx : Aside (s.data.toList[i]? = some x) := hxl
    clear hk hxl hx
    cases hin : [32, 9].contains x
    ·rw [hin] at hcon
     have hlt : ¬ ((0 : Int) ≤ Lib.indexByte [32, 9] x) := of_decide_eq_false hcon.symm
     have HI : Aside ([32, 9].contains x = false) := hin
     clear hcon hin
     go_wp2_with (go_at_call 178; refine (hir _).mono ?_; rintro e w' ⟨rfl, hw⟩; rw [hw])
     go_roundg g
     case measure => omega
     case rel => exact ⟨i + 1, by omega, hh2, hb2, HN.out.succ Hx.out HI.out⟩
    ·rw [hin] at hcon
     have hge : (0 : Int) ≤ Lib.indexByte [32, 9] x := of_decide_eq_true hcon.symm
     have HI : Aside ([32, 9].contains x = true) := hin
     clear hcon hin
     go_wp2_with (go_at_call 178; refine (hir _).mono ?_; rintro e w' ⟨rfl, hw⟩; rw [hw])
     go_ret
     exact ⟨by rw [Lib.indexAny_hit HN.out Hx.out HI.out]; rfl, hb2⟩
   ·have hi128 : 128 ≤ (s[i]'hi).toNat := by rw [hx]; omega
    obtain ⟨d1, d2⟩ := decode_high s i hi hi128
    have d3 := decode_le s i
    have hnx := fun ty => Lib.run_next_any_at (P := Tryz.prog) _ w.heap.size s i ty hh hi
    have hh2 := hk _ _ _ _ (i + (Utf8.decode s i).2) hh
    have hb2 := below_iterAt hbl s (i + (Utf8.decode s i).2) (Nat.le_refl w.heap.size)
    have hend : i + (Utf8.decode s i).2 ≤ s.size := by
     by_cases h1 : (Utf8.decode s i).2 = 1
     ·omega
     ·have := (decode_cont s i ((Utf8.decode s i).2 - 1) (by omega) (by omega)).1
      omega
    have hno2 : Aside (Lib.NoAny s.data.toList [32, 9] (i + (Utf8.decode s i).2)) := fun j b hj hb => by
     by_cases hji : j < i
     ·exact HN.out j b hji hb
     ·have hjs : j < s.size := by omega
      have hbj : s[j]'hjs = b := by
       have := Lib.data_getElem? s j hjs
       rw [hb] at this
       exact (Option.some.inj this).symm
      have hb128 : 128 ≤ b.toNat := by
       by_cases hji2 : j = i
       ·subst hji2
        rw [← hbj]
        exact hi128
       ·have := (decode_cont s i (j - i) (by omega) (by omega)).2
        rw [show i + (j - i) = j by omega] at this
        have hg : s.get! j = s[j]'hjs := get_at s j hjs
        rw [hg, hbj] at this
        omega
      have h1 : b ≠ 32 := fun h => by subst h; exact absurd hb128 (by decide)
      have h2 : b ≠ 9 := fun h => by subst h; exact absurd hb128 (by decide)
      simp [h1, h2]
    have hir := fun w => ir_all ((Utf8.decode s i).1 : Int) (by omega) (by omega) w
    clear hk hxl hx d1 d3 hi128
    generalize (Utf8.decode s i).1 = rn at hnx hir
    generalize (Utf8.decode s i).2 = wd at hnx hh2 hb2 hend hno2 d2
    go_wp2_with (go_at_call 178; refine (hir _).mono ?_; rintro e w' ⟨rfl, hw⟩)
    go_roundg (s.size - (i + wd))
    case measure => omega
    case rel =>
     refine ⟨i + wd, by omega, ?_, ?_, hno2.out⟩
     ·rw [hw.block _ (Array.getElem?_eq_some_iff.1 hh2).1]; exact hh2
     ·exact hb2.trans (hw.mono hb2.size)
end Go.Proofs.YtbdgncndhnnjoaaGreatDoor

namespace Go.Proofs.YtbdgncndhnnjoaaGreatDoor
open Go.RowKit YtbdgncndhnnjoaaGreatDoor
set_option linter.unusedVariables false
set_option linter.unusedSimpArgs false
set_option maxHeartbeats 0
set_option maxRecDepth 100000
variable {C : World → Prop}
def hpF (s p : ByteArray) : Bool := if (p.size : Int) ≤ (s.size : Int) then decide (s.extract 0 p.size = p) else false
theorem c_hp1 (s p : ByteArray) : Ct S0 C 177 [vV (.string s), vV (.string p)] [] [] [] [] (vV (.bool (hpF s p))) := by
 refine xIn Tryz.f177 fun E0 w0 hL hC hk => ?_
 by_cases h1 : (↑s.size : Int) ≥ (↑p.size : Int)
 ·refine xR 21 [(5, dT h1), (10, dSh 9 s p.size (by omega)), (12, dB (sEq (s.extract 0 p.size) p))] ?_
  exact xB (b' := (decide (s.extract 0 p.size = p))) (by simp [hpF, h1]) (xRetC [])
 ·refine xR 21 [(5, dF h1)] ?_
  exact xB (b' := false) (by simp [hpF, h1]) (xRetC [])
theorem c_hp (s p : ByteArray) : Ct S0 C 138 [vV (.string s), vV (.string p)] [] [] [] [] (vV (.bool (hpF s p))) := by
 refine xIn Tryz.f138 fun E0 w0 hL hC hk => ?_
 refine xR 11 [(3, dC (c_hp1 s p) [])] ?_
 exact (xRetC [])
def ixN (s : ByteArray) : Option Nat := s.data.toList.findIdx? fun b => b = 32 || b = 9
theorem ixN_lt {s : ByteArray} {i : Nat} (h : ixN s = some i) : i < s.size := by
 have := (List.findIdx?_eq_some_iff_findIdx_eq.1 h).1
 exact this
theorem ix_all (s : ByteArray) (hs : s.size ≤ 100000) (w : World) : Calls Tryz.prog 139 #[.string s, .string blB] w fun e w' => e = .returned (.int .i64 (Lib.indexAny s.data.toList [32, 9])) ∧ Below w.heap.size w w' := by
 by_cases h8 : s.size ≤ 8
 ·exact ix_short s h8 w
 ·have h116 : (Tryz.prog.info? (Ip.repRen.t 116)).map (fun i => (i.zero, i.size)) = some (some (.agg (Array.replicate 256 (.bool false))), 256) := by kernel_rfl
  have := Any.strings_IndexAny_long Ip.lays153 (zero_of_info h116).1 (zero_of_info h116).2 s blB w (by decide) (by omega) (by omega) (by decide) (ascii_of_all (by decide))
  exact this.mono fun e w' h => ⟨h.1, by rw [h.2]; exact Below.alloc ((Below.refl _ _).alloc (Nat.le_refl _) _) ((Below.refl w.heap.size w).alloc (Nat.le_refl _) _).size _⟩
theorem ix_some {s : ByteArray} {i : Nat} (h : ixN s = some i) : Lib.indexAny s.data.toList [32, 9] = i := by
 unfold ixN at h
 rw [List.findIdx?_eq_some_iff_getElem] at h
 obtain ⟨h1, h2, h3⟩ := h
 refine Lib.indexAny_hit (x := s.data.toList[i]) (fun j b hj hb => ?_) (List.getElem?_eq_getElem h1) (by simpa using h2)
 obtain ⟨hj2, rfl⟩ := List.getElem?_eq_some_iff.1 hb
 have := h3 j hj
 simpa using this
theorem ix_none {s : ByteArray} (h : ixN s = none) : Lib.indexAny s.data.toList [32, 9] = -1 := by
 unfold ixN at h
 rw [List.findIdx?_eq_none_iff] at h
 refine Lib.indexAny_none fun j b hj hb => ?_
 have := h b (List.mem_of_getElem? hb)
 simpa using this
theorem c_ixS (s : ByteArray) (hs : s.size ≤ 100000) (i : Nat) (h : ixN s = some i) : Ct S0 C 139 [vV (.string s), vV (.string ⟨#[32, 9]⟩)] [] [] [] [] (vV (.int .i64 (i : Int))) :=
 ct_flatX (args := [.string s, .string ⟨#[32, 9]⟩]) (fun w hL _ => (ix_all s hs w).mono fun e w' he => by rw [ix_some h] at he; exact he) (fun _ => rfl) (fun _ => rfl)
theorem c_ixZ (s : ByteArray) (hs : s.size ≤ 100000) (h : ixN s = none) : Ct S0 C 139 [vV (.string s), vV (.string ⟨#[32, 9]⟩)] [] [] [] [] (vV (.int .i64 (-1))) :=
 ct_flatX (args := [.string s, .string ⟨#[32, 9]⟩]) (fun w hL _ => (ix_all s hs w).mono fun e w' he => by rw [ix_none h] at he; exact he) (fun _ => rfl) (fun _ => rfl)
theorem xIt {P : Program} {S : Seat P} {c : Ctx} {E0 : Nat → Ent} {n : Nat} {B : Exit → Act → World → Prop} {K : List Fr} {s : St} (i : Nat) {x y : It} (e : x = y) (k : OK S c E0 n B K ⟨s.t, s.m.set i y⟩) (hi : s.m[i]? = some x := by kernel_rfl) : OK S c E0 n B K s := by
 have h : s.m.set i y = s.m := by
  subst e
  obtain ⟨h1, h2⟩ := List.getElem?_eq_some_iff.1 hi
  rw [← h2, List.set_getElem_self]
 rw [h] at k
 exact k
theorem ba_size (l : List UInt8) : (ByteArray.mk l.toArray).size = l.length := by
 show l.toArray.size = _
 simp
theorem trim_le (s : ByteArray) : (trimF s).size ≤ s.size := by
 unfold trimF
 rw [ba_size]
 show (List.dropWhile _ _).length ≤ _
 have h : s.data.toList.length = s.size := by show _ = s.data.size; simp
 rw [← h]
 exact (List.dropWhile_sublist _).length_le
def skF (s : ByteArray) : ByteArray := if hpF (trimF s) ⟨#[35]⟩ = true then ⟨#[]⟩ else trimF s
def wd1 (s : ByteArray) : ByteArray := match ixN (skF s) with
 | some i => (skF s).extract 0 i
 | none => skF s
def rs1 (s : ByteArray) : ByteArray := (skF s).extract (wd1 s).size (skF s).size
theorem c_take1 (rest : ByteArray) (hr : rest.size ≤ 100000) : Ct S0 C 136 [vP 0 0] [] [tC [vV (.string rest)] 9] [tC [vV (.string (rs1 rest))] 9] [] (vV (.string (wd1 rest))) := by
 have ht : (trimF rest).size ≤ 100000 := Nat.le_trans (trim_le rest) hr
 refine xIn Tryz.f136 fun E0 w0 hL hC hk => ?_
 cases q1 : hpF (trimF rest) ⟨#[35]⟩
 ·have e : skF rest = trimF rest := if_neg (by rw [q1]; exact Bool.false_ne_true)
  rcases q2 : ixN (trimF rest) with _ | i
  ·have e2 : wd1 rest = trimF rest := by unfold wd1; rw [e, q2]
   have e3 : rs1 rest = (trimF rest).extract (trimF rest).size (trimF rest).size := by unfold rs1; rw [e2, e]
   rw [e2, e3]
   refine xR 50 [(2, dC (c_trim rest) []), (5, dC ((c_hp (trimF rest) ({ data := #[35] })).rb q1) []), (9, dC (c_ixZ (trimF rest) ht q2) []), (16, dSl 9 (trimF rest) ((trimF rest).size) (by omega))] ?_
   exact (xRetC [])
  ·have hi := ixN_lt q2
   have e2 : wd1 rest = (trimF rest).extract 0 i := by unfold wd1; rw [e, q2]
   have e4 : ((trimF rest).extract 0 i).size = i := by rw [ByteArray.size_extract]; omega
   have e3 : rs1 rest = (trimF rest).extract ((trimF rest).extract 0 i).size (trimF rest).size := by unfold rs1; rw [e2, e]
   rw [e2, e3]
   refine xR 55 [(2, dC (c_trim rest) []), (5, dC ((c_hp (trimF rest) ({ data := #[35] })).rb q1) []), (9, dC (c_ixS (trimF rest) ht i q2) []), (15, dSh 9 (trimF rest) i (by omega)), (20, dSl 9 (trimF rest) (((trimF rest).extract 0 i).size) (by omega))] ?_
   exact (xRetC [])
 ·have e : skF rest = ⟨#[]⟩ := if_pos q1
  have q2 : ixN ⟨#[]⟩ = none := rfl
  have e2 : wd1 rest = ⟨#[]⟩ := by unfold wd1; rw [e]; rfl
  have e3 : rs1 rest = (⟨#[]⟩ : ByteArray).extract 0 0 := by unfold rs1; rw [e2, e]; rfl
  rw [e2, e3]
  refine xR 52 [(2, dC (c_trim rest) []), (5, dC ((c_hp (trimF rest) ({ data := #[35] })).rb q1) []), (10, dC (c_ixZ ({ data := #[] }) (by decide) q2) [])] ?_
  exact (xRetC [])
theorem sealT : (fun _ : ByteArray => True ∧ True) = (fun _ => True) := by funext x; simp
def sld (x : ByteArray) : ByteArray := (cast (congrArg (fun p => Subtype p) sealT) (⟨x, trivial, trivial⟩ : Subtype (fun _ : ByteArray => True ∧ True))).1
theorem seal_any {p q : ByteArray → Prop} (h : p = q) (x : ByteArray) (hp : p x) : (cast (congrArg (fun p => Subtype p) h) (⟨x, hp⟩ : Subtype p)).1 = x := by subst h; rfl
theorem seal_eq (x : ByteArray) : sld x = x := seal_any sealT x ⟨trivial, trivial⟩
theorem sk_le (s : ByteArray) : (skF s).size ≤ s.size := by
 unfold skF
 split
 ·show 0 ≤ _; omega
 ·exact trim_le s
theorem rs1_le (s : ByteArray) : (rs1 s).size ≤ s.size := by
 have := sk_le s
 unfold rs1
 rw [ByteArray.size_extract]; omega
def wdF (s : ByteArray) : ByteArray := sld (wd1 (clp s))
def rsF (s : ByteArray) : ByteArray := sld (rs1 (clp s))
theorem c_take (rest : ByteArray) : Ct S0 C 136 [vP 0 0] [] [rsI rest] [rsI (rsF rest)] [] (vV (.string (wdF rest))) := by
 have e1 : rsI rest = tC [vV (.string (clp rest))] 9 := rfl
 have e2 : rsI (rsF rest) = tC [vV (.string (rs1 (clp rest)))] 9 := by
  show tC [vV (.string (clp (sld (rs1 (clp rest)))))] 9 = _
  rw [seal_eq, clp_eq (Nat.le_trans (rs1_le _) (clp_le rest))]
 rw [e1, e2, show wdF rest = wd1 (clp rest) from seal_eq _]
 exact c_take1 (clp rest) (clp_le rest)
end Go.Proofs.YtbdgncndhnnjoaaGreatDoor

namespace Go.Proofs.YtbdgncndhnnjoaaGreatDoor
open Go.RowKit YtbdgncndhnnjoaaGreatDoor
set_option linter.unusedVariables false
set_option linter.unusedSimpArgs false
set_option maxHeartbeats 0
set_option maxRecDepth 100000
variable {C : World → Prop}
theorem c_next (g t h a n : DP) (line at_ : Nat) (word rest : ByteArray) (ha : at_ < 100000) : Ct S0 C 125 [vP 5 0] [tD g, tD t, tD h, tD a, tD n] [rdI line at_ word, rsI rest] [rdI line (at_ + 1) (wdF rest), rsI (rsF rest)] [] (vT []) := by
 refine xIn Tryz.f125 fun E0 w0 hL hC hk => ?_
 refine xR 1 [(6, dW ((at_ : Int) + 1) ((at_ + 1 : Nat) : Int) (by omega) (by omega) (by omega)), (11, dC (c_take rest) [6])] ?_
 exact (xRetC [])
theorem c_pass (g t h a n : DP) (line at_ : Nat) (word rest s : ByteArray) (ha : at_ < 100000) : Cu S0 C 128 [vP 5 0, vV (.string s)] [tD g, tD t, tD h, tD a, tD n] [rdI line at_ word, rsI rest] (if word = s then oR [rdI line (at_ + 1) (wdF rest), rsI (rsF rest)] [] (vT []) else oP (fltI 190 line at_)) := by
 refine xInU Tryz.f128 fun E0 w0 hL hC hk => ?_
 by_cases h1 : word = s
 ·refine xR 15 [(6, dB (((sEq word s)).trans (DT h1))), (7, dC (c_need g t h a n line at_ word rest 190) [0, 1, 2, 3, 4, 5, 6]), (9, dC (c_next g t h a n line at_ word rest ha) [0, 1, 2, 3, 4, 5, 6])] ?_
  exact xUr (if_pos h1) (xRetC [])
 ·refine xR 9 [(6, dB (((sEq word s)).trans (DF h1)))] ?_
  exact xUp (if_neg h1) (xPc (p_need g t h a n line at_ word rest 190) [0, 1, 2, 3, 4, 5, 6])
def newNameO (G T : List Nam) (H : List Hst) (k : Int) (count line at_ : Nat) (word rest : ByteArray) : Out :=
 if count < 64 then
  if (wdF rest).size = 0 then oP (fltI 190 line (at_ + 1)) else
  if labF (wdF rest) = true then
   if tellL G T H k (wdF rest) = true then oP (fltI 197 line (at_ + 1)) else
   if wdF (rsF rest) = ⟨#[61]⟩ then oR [rdI line (at_ + 1 + 1 + 1) (wdF (rsF (rsF rest))), rsI (rsF (rsF (rsF rest)))] [] (vV (.string (wdF rest)))
   else oP (fltI 190 line (at_ + 1 + 1))
  else oP (fltI 191 line (at_ + 1))
 else oP (fltI 198 line at_)
theorem c_newName (G T : List Nam) (H : List Hst) (a n : DP) (k : Int) (count line at_ : Nat) (word rest : ByteArray) (ha : at_ < 50000) (hG : G.length < 1000000) (hT : T.length < 1000000) (hH : H.length < 1000000) : Cu S0 C 122 [vP 5 0, vV (.int .u8 k), vV (.int .i64 (count : Int))] [tD (namD G), tD (namD T), tD (hstD H), tD a, tD n] [rdI line at_ word, rsI rest] (newNameO G T H k count line at_ word rest) := by
 refine xInU Tryz.f122 fun E0 w0 hL hC hk => ?_
 by_cases h1 : count < 64
 ·by_cases h2 : (wdF rest).size = 0
  ·refine xR 18 [(3, dC ((c_room (namD G) (namD T) (hstD H) a n line at_ word rest count).ret ((if_pos h1))) [0, 1, 2, 3, 4, 5, 6]), (5, dC (c_next (namD G) (namD T) (hstD H) a n line at_ word rest (by omega)) [0, 1, 2, 3, 4, 5, 6])] ?_
   exact xUp ((if_pos h1).trans ((if_pos h2))) (xPc ((c_name (namD G) (namD T) (hstD H) a n line (at_ + 1) (wdF rest) (rsF rest)).pan ((if_pos h2))) [0, 1, 2, 3, 4, 5, 6])
  ·by_cases h3 : labF (wdF rest) = true
   ·cases h4 : tellL G T H k (wdF rest)
    ·by_cases h5 : wdF (rsF rest) = { data := #[61] }
     ·refine xR 50 [(3, dC ((c_room (namD G) (namD T) (hstD H) a n line at_ word rest count).ret ((if_pos h1))) [0, 1, 2, 3, 4, 5, 6]), (5, dC (c_next (namD G) (namD T) (hstD H) a n line at_ word rest (by omega)) [0, 1, 2, 3, 4, 5, 6]), (7, dC ((c_name (namD G) (namD T) (hstD H) a n line (at_ + 1) (wdF rest) (rsF rest)).ret ((if_neg h2).trans ((if_pos h3)))) [0, 1, 2, 3, 4, 5, 6]), (17, dC ((c_tellsD G T H a k (wdF rest) false (Int.ofNat 0) (Int.ofNat 0) (Int.ofNat 0) hG hT hH).rb h4) [0, 1, 2, 3]), (19, dC (c_need (namD G) (namD T) (hstD H) a n line (at_ + 1) (wdF rest) (rsF rest) 197) [0, 1, 2, 3, 4, 5, 6]), (21, dC (c_next (namD G) (namD T) (hstD H) a n line (at_ + 1) (wdF rest) (rsF rest) (by omega)) [0, 1, 2, 3, 4, 5, 6]), (23, dC ((c_pass (namD G) (namD T) (hstD H) a n line (at_ + 1 + 1) (wdF (rsF rest)) (rsF (rsF rest)) ({ data := #[61] }) (by omega)).ret ((if_pos h5))) [0, 1, 2, 3, 4, 5, 6])] ?_
      exact (xUr ((if_pos h1).trans ((if_neg h2).trans ((if_pos h3).trans ((if_neg (nT h4)).trans ((if_pos h5)))))) (xRetC []))
     ·refine xR 43 [(3, dC ((c_room (namD G) (namD T) (hstD H) a n line at_ word rest count).ret ((if_pos h1))) [0, 1, 2, 3, 4, 5, 6]), (5, dC (c_next (namD G) (namD T) (hstD H) a n line at_ word rest (by omega)) [0, 1, 2, 3, 4, 5, 6]), (7, dC ((c_name (namD G) (namD T) (hstD H) a n line (at_ + 1) (wdF rest) (rsF rest)).ret ((if_neg h2).trans ((if_pos h3)))) [0, 1, 2, 3, 4, 5, 6]), (17, dC ((c_tellsD G T H a k (wdF rest) false (Int.ofNat 0) (Int.ofNat 0) (Int.ofNat 0) hG hT hH).rb h4) [0, 1, 2, 3]), (19, dC (c_need (namD G) (namD T) (hstD H) a n line (at_ + 1) (wdF rest) (rsF rest) 197) [0, 1, 2, 3, 4, 5, 6]), (21, dC (c_next (namD G) (namD T) (hstD H) a n line (at_ + 1) (wdF rest) (rsF rest) (by omega)) [0, 1, 2, 3, 4, 5, 6])] ?_
      exact xUp ((if_pos h1).trans ((if_neg h2).trans ((if_pos h3).trans ((if_neg (nT h4)).trans ((if_neg h5)))))) (xPc ((c_pass (namD G) (namD T) (hstD H) a n line (at_ + 1 + 1) (wdF (rsF rest)) (rsF (rsF rest)) ({ data := #[61] }) (by omega)).pan ((if_neg h5))) [0, 1, 2, 3, 4, 5, 6])
    ·refine xR 33 [(3, dC ((c_room (namD G) (namD T) (hstD H) a n line at_ word rest count).ret ((if_pos h1))) [0, 1, 2, 3, 4, 5, 6]), (5, dC (c_next (namD G) (namD T) (hstD H) a n line at_ word rest (by omega)) [0, 1, 2, 3, 4, 5, 6]), (7, dC ((c_name (namD G) (namD T) (hstD H) a n line (at_ + 1) (wdF rest) (rsF rest)).ret ((if_neg h2).trans ((if_pos h3)))) [0, 1, 2, 3, 4, 5, 6]), (17, dC ((c_tellsD G T H a k (wdF rest) false (Int.ofNat 0) (Int.ofNat 0) (Int.ofNat 0) hG hT hH).rb h4) [0, 1, 2, 3])] ?_
     exact xUp ((if_pos h1).trans ((if_neg h2).trans ((if_pos h3).trans ((if_pos h4))))) (xPc (p_need (namD G) (namD T) (hstD H) a n line (at_ + 1) (wdF rest) (rsF rest) 197) [0, 1, 2, 3, 4, 5, 6])
   ·refine xR 18 [(3, dC ((c_room (namD G) (namD T) (hstD H) a n line at_ word rest count).ret ((if_pos h1))) [0, 1, 2, 3, 4, 5, 6]), (5, dC (c_next (namD G) (namD T) (hstD H) a n line at_ word rest (by omega)) [0, 1, 2, 3, 4, 5, 6])] ?_
    exact xUp ((if_pos h1).trans ((if_neg h2).trans ((if_neg h3)))) (xPc ((c_name (namD G) (namD T) (hstD H) a n line (at_ + 1) (wdF rest) (rsF rest)).pan ((if_neg h2).trans ((if_neg h3)))) [0, 1, 2, 3, 4, 5, 6])
 ·refine xR 8 [] ?_
  exact xUp ((if_neg h1)) (xPc ((c_room (namD G) (namD T) (hstD H) a n line at_ word rest count).pan ((if_neg h1))) [0, 1, 2, 3, 4, 5, 6])
end Go.Proofs.YtbdgncndhnnjoaaGreatDoor

namespace Go.Proofs.YtbdgncndhnnjoaaGreatDoor
open Go.RowKit YtbdgncndhnnjoaaGreatDoor
set_option linter.unusedVariables false
set_option linter.unusedSimpArgs false
set_option maxHeartbeats 0
set_option maxRecDepth 100000
variable {C : World → Prop}
def dApp_strEl (l : List ByteArray) (b1 b2 : Nat) (s : ByteArray) (hle : l.length < 500000) : Dr S0 C := dApp 44 44 9 1 (.string ⟨#[]⟩) strEl l s b1 b2 9 [vV (.string s)] [] hle (fun _ _ => ⟨rfl, rfl⟩)
def rst (r : ByteArray) : Nat → ByteArray
 | 0 => r
 | j + 1 => rsF (rst r j)
def wrd (w r : ByteArray) : Nat → ByteArray
 | 0 => w
 | j + 1 => wdF (rst r j)
def wrds (w r : ByteArray) : Nat → List ByteArray
 | 0 => []
 | j + 1 => wrds w r j ++ [wrd w r j]
theorem wrds_len (w r : ByteArray) : ∀ j : Nat, (wrds w r j).length = j
 | 0 => rfl
 | j + 1 => by simp [wrds, wrds_len w r j]
def lsS (line at_ : Nat) (w r fin : ByteArray) : Nat → Nat → Out
 | 0, j => oP (fltI 198 line (at_ + j))
 | f + 1, j =>
  if j ≠ 0 then
   if (wrd w r j).size ≠ 0 then
    if wrd w r j ≠ fin then
     if labF (wrd w r j) = true then if j < 64 then lsS line at_ w r fin f (j + 1) else oP (fltI 198 line (at_ + j)) else oP (fltI 191 line (at_ + j))
    else oR [rdI line (at_ + j) (wrd w r j), rsI (rst r j)] [tD (RowD 1 9 strEl (wrds w r j))] (vW 7)
   else oR [rdI line (at_ + j) (wrd w r j), rsI (rst r j)] [tD (RowD 1 9 strEl (wrds w r j))] (vW 7)
  else if (wrd w r j).size = 0 then oP (fltI 190 line (at_ + j)) else if labF (wrd w r j) = true then lsS line at_ w r fin f (j + 1) else oP (fltI 191 line (at_ + j))
theorem c_listS (g0 t h a n : DP) (line at_ : Nat) (word rest fin : ByteArray) (ha : at_ < 50000) : Cu S0 C 161 [vP 5 0, vV (.string fin), vF (.func 162) [vP 5 0] []] [tD g0, tD t, tD h, tD a, tD n] [rdI line at_ word, rsI rest] (lsS line at_ word rest fin 65 0) := by
 refine xInU Tryz.f161 fun E0 w0 hL hC hk => ?_
 refine xR 10 [] ?_
 refine xPack (vV (.slice none 0 0)) [] (RowD 1 9 strEl (wrds word rest 0)) [7] [] (fun _ _ => ⟨rfl, row_nil _ _ _⟩) ?_
 refine xLp (fun (x : Nat) => [(7, vW 7)]) (fun (x : Nat) => [(5, rdI line (at_ + x) (wrd word rest x)), (6, rsI (rst rest x)), (7, tD (RowD 1 9 strEl (wrds word rest x)))]) [9, 10, 11, 12, 13, 14, 15, 16, 17, 18, 19, 20, 21, 22, 23, 24, 25, 26, 27, 28, 8, 29, 30, 31, 32, 33, 34, 35, 36, 37, 38] (fun x => ∃ f, x + f = 64 ∧ lsS line at_ word rest fin 65 0 = lsS line at_ word rest fin (f + 1) x) (fun x => 65 - x) 0 ⟨64, rfl, rfl⟩ fun x d hx g => ?_
 obtain ⟨f, hf, e⟩ := hx
 refine xUo e ?_
 have hl := wrds_len word rest x
 by_cases h1 : (↑x : Int) = 0
 ·by_cases h2 : (wrd word rest x).size = 0
  ·refine xR 28 [(1, dLenR 44 3 7 1 9 strEl (wrds word rest x) x hl), (2, dB (((iEq ((↑x : Int)) 0)).trans (DT h1)))] ?_
   exact xUp ((if_neg fun q => q (by omega)).trans ((if_pos h2))) (xPc ((c_name g0 t h a n line (at_ + x) (wrd word rest x) (rst rest x)).pan ((if_pos h2))) [0, 1, 2, 3, 4, 5, 6])
  ·by_cases h3 : labF (wrd word rest x) = true
   ·refine xR 51 [(1, dLenR 44 3 7 1 9 strEl (wrds word rest x) x hl), (2, dB (((iEq ((↑x : Int)) 0)).trans (DT h1))), (19, dC ((c_name g0 t h a n line (at_ + x) (wrd word rest x) (rst rest x)).ret ((if_neg h2).trans ((if_pos h3)))) [0, 1, 2, 3, 4, 5, 6]), (23, dLenR 44 3 7 1 9 strEl (wrds word rest x) x hl), (24, dC ((c_room g0 t h a n line (at_ + x) (wrd word rest x) (rst rest x) x).ret ((if_pos (by omega)))) [0, 1, 2, 3, 4, 5, 6]), (28, dApp_strEl (wrds word rest x) 7 8 (wrd word rest x) (by omega)), (31, dC (c_next g0 t h a n line (at_ + x) (wrd word rest x) (rst rest x) (by omega)) [0, 1, 2, 3, 4, 5, 6])] ?_
    exact xNx g (x + 1) [9, 10, 11, 12, 13, 14, 15, 16, 17, 18, 19, 20, 21, 22, 23, 24, 25, 26, 27, 28, 8, 29, 30, 31, 32, 33, 34, 35, 36, 37, 38] [0, 1, 2, 3, 4, 5, 6, 9] (by exact ⟨f - 1, by omega, e.trans (((if_neg fun q => q (by omega)).trans ((if_neg h2).trans ((if_pos h3)))).trans (by rw [show f - 1 + 1 = f by omega]))⟩) (by omega)
   ·refine xR 28 [(1, dLenR 44 3 7 1 9 strEl (wrds word rest x) x hl), (2, dB (((iEq ((↑x : Int)) 0)).trans (DT h1)))] ?_
    exact xUp ((if_neg fun q => q (by omega)).trans ((if_neg h2).trans ((if_neg h3)))) (xPc ((c_name g0 t h a n line (at_ + x) (wrd word rest x) (rst rest x)).pan ((if_neg h2).trans ((if_neg h3)))) [0, 1, 2, 3, 4, 5, 6])
 ·by_cases h2 : (wrd word rest x).size = 0
  ·refine xR 29 [(1, dLenR 44 3 7 1 9 strEl (wrds word rest x) x hl), (2, dB (((iEq ((↑x : Int)) 0)).trans (DF h1))), (8, dB (((sN0 (wrd word rest x))).trans (DNF h2)))] ?_
   exact (xUr ((if_pos (by omega)).trans ((if_neg fun q => q h2))) (xRetC [7]))
  ·by_cases h3 : wrd word rest x = fin
   ·refine xR 29 [(1, dLenR 44 3 7 1 9 strEl (wrds word rest x) x hl), (2, dB (((iEq ((↑x : Int)) 0)).trans (DF h1))), (8, dB (((sN0 (wrd word rest x))).trans (DNT h2))), (15, dB (((sNe (wrd word rest x) fin)).trans (DNF h3)))] ?_
    exact (xUr ((if_pos (by omega)).trans ((if_pos h2).trans ((if_neg fun q => q h3)))) (xRetC [7]))
   ·by_cases h4 : labF (wrd word rest x) = true
    ·by_cases h5 : x < 64
     ·refine xR 51 [(1, dLenR 44 3 7 1 9 strEl (wrds word rest x) x hl), (2, dB (((iEq ((↑x : Int)) 0)).trans (DF h1))), (8, dB (((sN0 (wrd word rest x))).trans (DNT h2))), (15, dB (((sNe (wrd word rest x) fin)).trans (DNT h3))), (19, dC ((c_name g0 t h a n line (at_ + x) (wrd word rest x) (rst rest x)).ret ((if_neg h2).trans ((if_pos h4)))) [0, 1, 2, 3, 4, 5, 6]), (23, dLenR 44 3 7 1 9 strEl (wrds word rest x) x hl), (24, dC ((c_room g0 t h a n line (at_ + x) (wrd word rest x) (rst rest x) x).ret ((if_pos h5))) [0, 1, 2, 3, 4, 5, 6]), (28, dApp_strEl (wrds word rest x) 7 8 (wrd word rest x) (by omega)), (31, dC (c_next g0 t h a n line (at_ + x) (wrd word rest x) (rst rest x) (by omega)) [0, 1, 2, 3, 4, 5, 6])] ?_
      exact xNx g (x + 1) [9, 10, 11, 12, 13, 14, 15, 16, 17, 18, 19, 20, 21, 22, 23, 24, 25, 26, 27, 28, 8, 29, 30, 31, 32, 33, 34, 35, 36, 37, 38] [0, 1, 2, 3, 4, 5, 6, 9] (by exact ⟨f - 1, by omega, e.trans (((if_pos (by omega)).trans ((if_pos h2).trans ((if_pos h3).trans ((if_pos h4).trans ((if_pos h5)))))).trans (by rw [show f - 1 + 1 = f by omega]))⟩) (by omega)
     ·refine xR 36 [(1, dLenR 44 3 7 1 9 strEl (wrds word rest x) x hl), (2, dB (((iEq ((↑x : Int)) 0)).trans (DF h1))), (8, dB (((sN0 (wrd word rest x))).trans (DNT h2))), (15, dB (((sNe (wrd word rest x) fin)).trans (DNT h3))), (19, dC ((c_name g0 t h a n line (at_ + x) (wrd word rest x) (rst rest x)).ret ((if_neg h2).trans ((if_pos h4)))) [0, 1, 2, 3, 4, 5, 6]), (23, dLenR 44 3 7 1 9 strEl (wrds word rest x) x hl)] ?_
      exact xUp ((if_pos (by omega)).trans ((if_pos h2).trans ((if_pos h3).trans ((if_pos h4).trans ((if_neg h5)))))) (xPc ((c_room g0 t h a n line (at_ + x) (wrd word rest x) (rst rest x) x).pan ((if_neg h5))) [0, 1, 2, 3, 4, 5, 6])
    ·refine xR 28 [(1, dLenR 44 3 7 1 9 strEl (wrds word rest x) x hl), (2, dB (((iEq ((↑x : Int)) 0)).trans (DF h1))), (8, dB (((sN0 (wrd word rest x))).trans (DNT h2))), (15, dB (((sNe (wrd word rest x) fin)).trans (DNT h3)))] ?_
     exact xUp ((if_pos (by omega)).trans ((if_pos h2).trans ((if_pos h3).trans ((if_neg h4))))) (xPc ((c_name g0 t h a n line (at_ + x) (wrd word rest x) (rst rest x)).pan ((if_neg h2).trans ((if_neg h4)))) [0, 1, 2, 3, 4, 5, 6])
end Go.Proofs.YtbdgncndhnnjoaaGreatDoor

namespace Go.Proofs.YtbdgncndhnnjoaaGreatDoor
open Go.RowKit YtbdgncndhnnjoaaGreatDoor
set_option linter.unusedVariables false
set_option linter.unusedSimpArgs false
set_option maxHeartbeats 0
set_option maxRecDepth 100000
variable {C : World → Prop}
def rpN (s : ByteArray) : Net := ⟨Ip.zB (Ip.rpE s) (Ip.rpV s), Ip.zI (Ip.rpE s) (Ip.rpH s), Ip.zI (Ip.rpE s) (Ip.rpL s), Ip.zI (Ip.rpE s) (Ip.rpB s)⟩
theorem c_readPrefix (s : ByteArray) (hs : s.size ≤ 200000) : Ct S0 C 123 [vV (.string s)] [] [] [] [] (vT [vG [vV (.bool (rpN s).v6), vV (.int .u64 (rpN s).hi), vV (.int .u64 (rpN s).lo), vV (.int .u8 (rpN s).bits)], vV (.int .i64 (Ip.rpE s))]) :=
 ct_flatX (args := [.string s]) (fun w hL _ => Ip.c_ReadPrefix s hs w hL.ip) (fun _ => rfl) (fun _ => rfl)
def colA (w : ByteArray) : ByteArray := Ip.cuA w ⟨#[58]⟩
def colB (w : ByteArray) : ByteArray := Ip.cuB w ⟨#[58]⟩
def selF (w : ByteArray) : Sel := if w = ⟨#[42]⟩ then ⟨1, ⟨#[]⟩, net0⟩ else if kindF (colA w) = 6 then ⟨kindF (colA w), ⟨#[]⟩, rpN (colB w)⟩ else ⟨kindF (colA w), colB w, net0⟩
def selB (w : ByteArray) : Bool := if w = ⟨#[42]⟩ then true else if kindF (colA w) = 6 then decide (Ip.rpE (colB w) = 0) else maySelF ⟨kindF (colA w), colB w, net0⟩
theorem c_maySelX (k : Int) (nm : ByteArray) (v6 : Bool) (hi lo b : Int) (hb0 : 0 ≤ b) (hb1 : b ≤ 255) : Ct S0 C 67 [vG [vV (.int .u8 k), vV (.string nm), vV (.bool v6), vV (.int .u64 hi), vV (.int .u64 lo), vV (.int .u8 b)]] [] [] [] [] (vV (.bool (maySelF ⟨k, nm, ⟨v6, hi, lo, b⟩⟩))) := c_maySel ⟨k, nm, ⟨v6, hi, lo, b⟩⟩ hb0 hb1
theorem c_selOf (w : ByteArray) (hw : w.size ≤ 100000) (hb : (colB w).size ≤ 200000) : Ct S0 C 167 [vV (.string w)] [] [] [] [] (vT [vG (selS (selF w)), vV (.bool (selB w))]) := by
 refine xIn Tryz.f167 fun E0 w0 hL hC hk => ?_
 by_cases h1 : w = { data := #[42] }
 ·refine xR 18 [(3, dB (((sEq w ({ data := #[42] }))).trans (DT h1)))] ?_
  exact xV (v' := vT [vG (selS ⟨1, ⟨#[]⟩, net0⟩), vV (.bool true)]) (by rw [show selF w = _ from if_pos h1, show selB w = _ from if_pos h1]) (xRetC [])
 ·by_cases h2 : kindF (Ip.cuA w { data := #[58] }) = 6
  ·refine xR 66 [(3, dB (((sEq w ({ data := #[42] }))).trans (DF h1))), (5, dC (c_cut w ({ data := #[58] }) (by omega)) []), (14, dC (c_kindOf (Ip.cuA w { data := #[58] })) []), (20, dB (((iEq (kindF (Ip.cuA w { data := #[58] })) 6)).trans (DT h2))), (22, dC (c_readPrefix (Ip.cuB w { data := #[58] }) hb) []), (34, dB (iEq (Ip.rpE (Ip.cuB w { data := #[58] })) 0))] ?_
   exact xV (v' := vT [vG (selS ⟨kindF (colA w), ⟨#[]⟩, rpN (colB w)⟩), vV (.bool (decide (Ip.rpE (colB w) = 0)))]) (by rw [show selF w = _ from (if_neg h1).trans (if_pos h2), show selB w = _ from (if_neg h1).trans (if_pos h2)]) (xRetC [])
  ·refine xR 50 [(3, dB ((sEq w ({ data := #[42] })).trans (DF h1))), (5, dC (c_cut w ({ data := #[58] }) (by omega)) []), (14, dC (c_kindOf (Ip.cuA w { data := #[58] })) []), (20, dB ((iEq (kindF (Ip.cuA w { data := #[58] })) 6).trans (DF h2))), (26, dC (c_maySelX (kindF (Ip.cuA w { data := #[58] })) (Ip.cuB w { data := #[58] }) false 0 0 0 (by decide) (by decide)) [])] ?_
   exact xV (v' := vT [vG (selS ⟨kindF (colA w), colB w, net0⟩), vV (.bool (maySelF ⟨kindF (colA w), colB w, net0⟩))]) (by rw [show selF w = _ from (if_neg h1).trans (if_neg h2), show selB w = _ from (if_neg h1).trans (if_neg h2)]) (xRetC [])
end Go.Proofs.YtbdgncndhnnjoaaGreatDoor

namespace Go.Proofs.YtbdgncndhnnjoaaGreatDoor
open Go.RowKit YtbdgncndhnnjoaaGreatDoor
set_option linter.unusedVariables false
set_option linter.unusedSimpArgs false
set_option maxHeartbeats 0
set_option maxRecDepth 100000
variable {C : World → Prop}
structure Men where
 sel : Sel
 e : Int
 line : Int
 at_ : Int
def menEl (x : Men) (c : List Value) (T : List Blk) : Prop := c = x.sel.cs ++ [.int .i64 x.e, .int .i64 x.line, .int .i64 x.at_] ∧ T = []
abbrev menD (l : List Men) : DP := RowD 9 141 menEl l
def selEl (x : Sel) (c : List Value) (T : List Blk) : Prop := c = x.cs ∧ T = []
def prtEl (x : Int × Int) (c : List Value) (T : List Blk) : Prop := c = [.int .u16 x.1, .int .u16 x.2] ∧ T = []
def dApp_selEl (l : List Sel) (b1 b2 : Nat) (k : Int) (s : ByteArray) (v6 : Bool) (hi lo b : Int) (hle : l.length < 500000) : Dr S0 C := dApp 54 54 59 6 (.agg #[.int .u8 0, .string ⟨#[]⟩, .bool false, .int .u64 0, .int .u64 0, .int .u8 0]) selEl l ⟨k, s, ⟨v6, hi, lo, b⟩⟩ b1 b2 59 (selS ⟨k, s, ⟨v6, hi, lo, b⟩⟩) [] hle (fun _ _ => ⟨rfl, rfl⟩)
def dApp_prtEl (l : List (Int × Int)) (b1 b2 : Nat) (x y : Int) (hle : l.length < 500000) : Dr S0 C := dApp 55 55 103 2 (.agg #[.int .u16 0, .int .u16 0]) prtEl l (x, y) b1 b2 103 [vV (.int .u16 x), vV (.int .u16 y)] [] hle (fun _ _ => ⟨rfl, rfl⟩)
def dApp_menEl (l : List Men) (b1 b2 : Nat) (k : Int) (s : ByteArray) (v6 : Bool) (hi lo b e : Int) (line at_ : Int) (hle : l.length < 500000) : Dr S0 C := dApp 68 68 141 9 (.agg #[.int .u8 0, .string ⟨#[]⟩, .bool false, .int .u64 0, .int .u64 0, .int .u8 0, .int .i64 0, .int .i64 0, .int .i64 0]) menEl l ⟨⟨k, s, ⟨v6, hi, lo, b⟩⟩, e, line, at_⟩ b1 b2 141 (selS ⟨k, s, ⟨v6, hi, lo, b⟩⟩ ++ [vV (.int .i64 e), vV (.int .i64 line), vV (.int .i64 at_)]) [] hle (fun _ _ => ⟨rfl, rfl⟩)
def rdM (i : Nat) (line at_ : Nat) (word : ByteArray) : It := tC [vW 0, vW 1, vW 2, vW 3, vV (.int .i64 (line : Int)), vV (.int .i64 (at_ : Int)), vV (.string word), vF (.func 136) [] [vP 6 0], vW i] 70
def selO (l : List Men) (line at_ : Nat) (w rest : ByteArray) : Out :=
 if w.size = 0 then oP (fltI 190 line at_) else
 if selB w = true then oR [gap, rdM 7 line at_ w, rsI rest] [tD (menD (l ++ [⟨selF w, 196, line, at_⟩]))] (vG (selS (selF w))) else oP (fltI 195 line at_)
theorem c_here9 (g t h a n : DP) (line at_ : Nat) (word rest : ByteArray) (e : Int) : Ct S0 C 103 [vP 5 0, vV (.int .i64 e)] (rdr g t h a n line at_ word rest) [] [] [] (vG [vV (.int .i64 e), vV (.int .i64 (line : Int)), vV (.int .i64 (at_ : Int))]) := c_here g t h a n line at_ word rest e
theorem c_needW (g t h a n : DP) (line at_ : Nat) (word rest : ByteArray) (e : Int) (b : Bool) : Cu S0 C 124 [vP 5 0, vV (.bool b), vV (.int .i64 e)] (rdr g t h a n line at_ word rest) [] (if word.size = 0 then oP (fltI 190 line at_) else if b = true then oR [] [] (vT []) else oP (fltI e line at_)) := by
 by_cases h1 : word.size = 0
 ·rw [if_pos h1]
  exact p_need2 g t h a n line at_ word rest e b h1
 ·rw [if_neg h1]
  cases b
  ·exact p_need3 g t h a n line at_ word rest e h1
  ·exact c_need2 g t h a n line at_ word rest e h1
theorem c_sel (g t h a : DP) (l : List Men) (line at_ : Nat) (w rest : ByteArray) (hw : w.size ≤ 100000) (hb : (colB w).size ≤ 200000) (hl : l.length < 500000) : Cu S0 C 130 [vP 5 0] [tD g, tD t, tD h, tD a] [tD (menD l), rdI line at_ w, rsI rest] (selO l line at_ w rest) := by
 refine xInU Tryz.f130 fun E0 w0 hL hC hk => ?_
 by_cases h1 : w.size = 0
 ·refine xR 22 [(5, dC (c_selOf w hw hb) [])] ?_
  exact xUp ((if_pos h1)) (xPc ((c_needW g t h a (menD l) line at_ w rest 195 (selB w)).pan ((if_pos h1))) [0, 1, 2, 3, 4, 5, 6])
 ·by_cases h2 : selB w = true
  ·refine xR 31 [(5, dC (c_selOf w hw hb) []), (8, dB h2), (14, dC ((c_needW g t h a (menD l) line at_ w rest 195 true).ret ((if_neg h1).trans ((if_pos rfl)))) [0, 1, 2, 3, 4, 5, 6]), (22, dC (c_here9 g t h a (menD l) line at_ w rest 196) [0, 1, 2, 3, 4, 5, 6]), (25, dApp_menEl l 4 9 ((selF w).kind) ((selF w).name) ((selF w).net.v6) ((selF w).net.hi) ((selF w).net.lo) ((selF w).net.bits) (Int.ofNat 196) ((↑line : Int)) ((↑at_ : Int)) hl)] ?_
   exact (xUr ((if_neg h1).trans ((if_pos h2))) (xRetC [10]))
  ·refine xR 22 [(5, dC (c_selOf w hw hb) [])] ?_
   exact xUp ((if_neg h1).trans ((if_neg h2))) (xPc ((c_needW g t h a (menD l) line at_ w rest 195 (selB w)).pan ((if_neg h1).trans ((if_neg h2)))) [0, 1, 2, 3, 4, 5, 6])
def rdX (i0 i1 i2 i3 i4 : Nat) (line at_ : Nat) (word : ByteArray) : It := tC [vW i0, vW i1, vW i2, vW i3, vV (.int .i64 (line : Int)), vV (.int .i64 (at_ : Int)), vV (.string word), vF (.func 136) [] [vP 6 0], vW i4] 70
end Go.Proofs.YtbdgncndhnnjoaaGreatDoor

namespace Go.Proofs.YtbdgncndhnnjoaaGreatDoor
open Go.RowKit YtbdgncndhnnjoaaGreatDoor
set_option linter.unusedVariables false
set_option linter.unusedSimpArgs false
set_option maxHeartbeats 0
set_option maxRecDepth 100000
variable {C : World → Prop}
abbrev selLD (l : List Sel) : DP := RowD 6 59 selEl l
def sels (w r : ByteArray) : Nat → List Sel
 | 0 => []
 | j + 1 => sels w r j ++ [⟨(selF (wrd w r j)).kind, (selF (wrd w r j)).name, ⟨(selF (wrd w r j)).net.v6, (selF (wrd w r j)).net.hi, (selF (wrd w r j)).net.lo, (selF (wrd w r j)).net.bits⟩⟩]
def mens (l : List Men) (line at_ : Nat) (w r : ByteArray) : Nat → List Men
 | 0 => l
 | j + 1 => mens l line at_ w r j ++ [⟨selF (wrd w r j), 196, line, (at_ + j : Nat)⟩]
theorem sels_len (w r : ByteArray) : ∀ j : Nat, (sels w r j).length = j
 | 0 => rfl
 | j + 1 => by simp [sels, sels_len w r j]
theorem mens_len (l : List Men) (line at_ : Nat) (w r : ByteArray) : ∀ j : Nat, (mens l line at_ w r j).length = l.length + j
 | 0 => rfl
 | j + 1 => by simp [mens, mens_len l line at_ w r j]; omega
def lsL (l : List Men) (line at_ : Nat) (w r fin : ByteArray) : Nat → Nat → Out
 | 0, j => oP (fltI 198 line (at_ + j))
 | f + 1, j =>
  if j ≠ 0 then
   if (wrd w r j).size ≠ 0 then
    if wrd w r j ≠ fin then
     if selB (wrd w r j) = true then if j < 64 then lsL l line at_ w r fin f (j + 1) else oP (fltI 198 line (at_ + j)) else oP (fltI 195 line (at_ + j))
    else oR [gap, rdM 7 line (at_ + j) (wrd w r j), rsI (rst r j)] [tD (menD (mens l line at_ w r j)), tD (selLD (sels w r j))] (vW 8)
   else oR [gap, rdM 7 line (at_ + j) (wrd w r j), rsI (rst r j)] [tD (menD (mens l line at_ w r j)), tD (selLD (sels w r j))] (vW 8)
  else if (wrd w r j).size = 0 then oP (fltI 190 line (at_ + j)) else if selB (wrd w r j) = true then lsL l line at_ w r fin f (j + 1) else oP (fltI 195 line (at_ + j))
theorem c_listL (g0 t h a : DP) (l : List Men) (line at_ : Nat) (word rest fin : ByteArray) (ha : at_ < 50000) (hl : l.length < 400000) (hw : ∀ j, (wrd word rest j).size ≤ 100000) (hb : ∀ j, (colB (wrd word rest j)).size ≤ 200000) : Cu S0 C 129 [vP 5 0, vV (.string fin), vF (.func 130) [vP 5 0] []] [tD g0, tD t, tD h, tD a] [tD (menD l), rdI line at_ word, rsI rest] (lsL l line at_ word rest fin 65 0) := by
 refine xInU Tryz.f129 fun E0 w0 hL hC hk => ?_
 refine xR 10 [] ?_
 refine xMove 4 [] [(5, 8)] (menD (mens l line at_ word rest 0)) ?_
 refine xPack (vV (.slice none 0 0)) [] (selLD (sels word rest 0)) [7] [] (fun _ _ => ⟨rfl, row_nil _ _ _⟩) ?_
 refine xLp (fun (x : Nat) => [(7, vW 8)]) (fun (x : Nat) => [(5, rdM 7 line (at_ + x) (wrd word rest x)), (6, rsI (rst rest x)), (7, tD (menD (mens l line at_ word rest x))), (8, tD (selLD (sels word rest x)))]) [9, 10, 11, 12, 13, 14, 15, 16, 17, 18, 19, 20, 21, 22, 23, 24, 25, 26, 27, 28, 8, 29, 30, 31, 32, 33, 34, 35, 36, 37, 38] (fun x => ∃ f, x + f = 64 ∧ lsL l line at_ word rest fin 65 0 = lsL l line at_ word rest fin (f + 1) x) (fun x => 65 - x) 0 ⟨64, rfl, rfl⟩ fun x d hx g => ?_
 obtain ⟨f, hf, e⟩ := hx
 refine xUo e ?_
 have hl1 := sels_len word rest x
 have hl2 := mens_len l line at_ word rest x
 have hw1 := hw x
 have hb1 := hb x
 by_cases h1 : (↑x : Int) = 0
 ·by_cases h2 : (wrd word rest x).size = 0
  ·refine xR 28 [(1, dLenR 54 3 8 6 59 selEl (sels word rest x) x hl1), (2, dB (((iEq ((↑x : Int)) 0)).trans (DT h1)))] ?_
   exact xUp ((if_neg fun q => q (by omega)).trans ((if_pos h2))) (xPc ((c_sel g0 t h a (mens l line at_ word rest x) line (at_ + x) (wrd word rest x) (rst rest x) hw1 hb1 (by omega)).pan ((if_pos h2))) [0, 1, 2, 3, 7, 5, 6])
  ·by_cases h3 : selB (wrd word rest x) = true
   ·refine xR 52 [(1, dLenR 54 3 8 6 59 selEl (sels word rest x) x hl1), (2, dB (((iEq ((↑x : Int)) 0)).trans (DT h1))), (19, dC ((c_sel g0 t h a (mens l line at_ word rest x) line (at_ + x) (wrd word rest x) (rst rest x) hw1 hb1 (by omega)).ret ((if_neg h2).trans ((if_pos h3)))) [0, 1, 2, 3, 7, 5, 6]), (24, dLenR 54 3 8 6 59 selEl (sels word rest x) x hl1), (25, dC ((c_room g0 t h a (menD (mens l line at_ word rest x ++ [{ sel := selF (wrd word rest x), e := 196, line := (↑line : Int), at_ := (↑(at_ + x) : Int) }])) line (at_ + x) (wrd word rest x) (rst rest x) x).ret ((if_pos (by omega)))) [0, 1, 2, 3, 9, 5, 6]), (29, dApp_selEl (sels word rest x) 8 11 ((selF (wrd word rest x)).kind) ((selF (wrd word rest x)).name) ((selF (wrd word rest x)).net.v6) ((selF (wrd word rest x)).net.hi) ((selF (wrd word rest x)).net.lo) ((selF (wrd word rest x)).net.bits) (by omega)), (32, dC (c_next g0 t h a (menD (mens l line at_ word rest x ++ [{ sel := selF (wrd word rest x), e := 196, line := (↑line : Int), at_ := (↑(at_ + x) : Int) }])) line (at_ + x) (wrd word rest x) (rst rest x) (by omega)) [0, 1, 2, 3, 9, 5, 6])] ?_
    exact xNx g (x + 1) [9, 10, 11, 12, 13, 14, 15, 16, 17, 18, 19, 20, 21, 22, 23, 24, 25, 26, 27, 28, 8, 29, 30, 31, 32, 33, 34, 35, 36, 37, 38] [0, 1, 2, 3, 4, 5, 6, 9, 12] (by exact ⟨f - 1, by omega, e.trans (((if_neg fun q => q (by omega)).trans ((if_neg h2).trans ((if_pos h3)))).trans (by rw [show f - 1 + 1 = f by omega]))⟩) (by omega)
   ·refine xR 28 [(1, dLenR 54 3 8 6 59 selEl (sels word rest x) x hl1), (2, dB (((iEq ((↑x : Int)) 0)).trans (DT h1)))] ?_
    exact xUp ((if_neg fun q => q (by omega)).trans ((if_neg h2).trans ((if_neg h3)))) (xPc ((c_sel g0 t h a (mens l line at_ word rest x) line (at_ + x) (wrd word rest x) (rst rest x) hw1 hb1 (by omega)).pan ((if_neg h2).trans ((if_neg h3)))) [0, 1, 2, 3, 7, 5, 6])
 ·by_cases h2 : (wrd word rest x).size = 0
  ·refine xR 29 [(1, dLenR 54 3 8 6 59 selEl (sels word rest x) x hl1), (2, dB (((iEq ((↑x : Int)) 0)).trans (DF h1))), (8, dB (((sN0 (wrd word rest x))).trans (DNF h2)))] ?_
   exact (xUr ((if_pos (by omega)).trans ((if_neg fun q => q h2))) (xRetC [7, 8]))
  ·by_cases h3 : wrd word rest x = fin
   ·refine xR 29 [(1, dLenR 54 3 8 6 59 selEl (sels word rest x) x hl1), (2, dB (((iEq ((↑x : Int)) 0)).trans (DF h1))), (8, dB (((sN0 (wrd word rest x))).trans (DNT h2))), (15, dB (((sNe (wrd word rest x) fin)).trans (DNF h3)))] ?_
    exact (xUr ((if_pos (by omega)).trans ((if_pos h2).trans ((if_neg fun q => q h3)))) (xRetC [7, 8]))
   ·by_cases h4 : selB (wrd word rest x) = true
    ·by_cases h5 : x < 64
     ·refine xR 52 [(1, dLenR 54 3 8 6 59 selEl (sels word rest x) x hl1), (2, dB (((iEq ((↑x : Int)) 0)).trans (DF h1))), (8, dB (((sN0 (wrd word rest x))).trans (DNT h2))), (15, dB (((sNe (wrd word rest x) fin)).trans (DNT h3))), (19, dC ((c_sel g0 t h a (mens l line at_ word rest x) line (at_ + x) (wrd word rest x) (rst rest x) hw1 hb1 (by omega)).ret ((if_neg h2).trans ((if_pos h4)))) [0, 1, 2, 3, 7, 5, 6]), (24, dLenR 54 3 8 6 59 selEl (sels word rest x) x hl1), (25, dC ((c_room g0 t h a (menD (mens l line at_ word rest x ++ [{ sel := selF (wrd word rest x), e := 196, line := (↑line : Int), at_ := (↑(at_ + x) : Int) }])) line (at_ + x) (wrd word rest x) (rst rest x) x).ret ((if_pos h5))) [0, 1, 2, 3, 9, 5, 6]), (29, dApp_selEl (sels word rest x) 8 11 ((selF (wrd word rest x)).kind) ((selF (wrd word rest x)).name) ((selF (wrd word rest x)).net.v6) ((selF (wrd word rest x)).net.hi) ((selF (wrd word rest x)).net.lo) ((selF (wrd word rest x)).net.bits) (by omega)), (32, dC (c_next g0 t h a (menD (mens l line at_ word rest x ++ [{ sel := selF (wrd word rest x), e := 196, line := (↑line : Int), at_ := (↑(at_ + x) : Int) }])) line (at_ + x) (wrd word rest x) (rst rest x) (by omega)) [0, 1, 2, 3, 9, 5, 6])] ?_
      exact xNx g (x + 1) [9, 10, 11, 12, 13, 14, 15, 16, 17, 18, 19, 20, 21, 22, 23, 24, 25, 26, 27, 28, 8, 29, 30, 31, 32, 33, 34, 35, 36, 37, 38] [0, 1, 2, 3, 4, 5, 6, 9, 12] (by exact ⟨f - 1, by omega, e.trans (((if_pos (by omega)).trans ((if_pos h2).trans ((if_pos h3).trans ((if_pos h4).trans ((if_pos h5)))))).trans (by rw [show f - 1 + 1 = f by omega]))⟩) (by omega)
     ·refine xR 37 [(1, dLenR 54 3 8 6 59 selEl (sels word rest x) x hl1), (2, dB (((iEq ((↑x : Int)) 0)).trans (DF h1))), (8, dB (((sN0 (wrd word rest x))).trans (DNT h2))), (15, dB (((sNe (wrd word rest x) fin)).trans (DNT h3))), (19, dC ((c_sel g0 t h a (mens l line at_ word rest x) line (at_ + x) (wrd word rest x) (rst rest x) hw1 hb1 (by omega)).ret ((if_neg h2).trans ((if_pos h4)))) [0, 1, 2, 3, 7, 5, 6]), (24, dLenR 54 3 8 6 59 selEl (sels word rest x) x hl1)] ?_
      exact xUp ((if_pos (by omega)).trans ((if_pos h2).trans ((if_pos h3).trans ((if_pos h4).trans ((if_neg h5)))))) (xPc ((c_room g0 t h a (menD (mens l line at_ word rest x ++ [{ sel := selF (wrd word rest x), e := 196, line := (↑line : Int), at_ := (↑(at_ + x) : Int) }])) line (at_ + x) (wrd word rest x) (rst rest x) x).pan ((if_neg h5))) [0, 1, 2, 3, 9, 5, 6])
    ·refine xR 28 [(1, dLenR 54 3 8 6 59 selEl (sels word rest x) x hl1), (2, dB (((iEq ((↑x : Int)) 0)).trans (DF h1))), (8, dB (((sN0 (wrd word rest x))).trans (DNT h2))), (15, dB (((sNe (wrd word rest x) fin)).trans (DNT h3)))] ?_
     exact xUp ((if_pos (by omega)).trans ((if_pos h2).trans ((if_pos h3).trans ((if_neg h4))))) (xPc ((c_sel g0 t h a (mens l line at_ word rest x) line (at_ + x) (wrd word rest x) (rst rest x) hw1 hb1 (by omega)).pan ((if_neg h2).trans ((if_neg h4)))) [0, 1, 2, 3, 7, 5, 6])
end Go.Proofs.YtbdgncndhnnjoaaGreatDoor

namespace Go.Proofs.YtbdgncndhnnjoaaGreatDoor
open Go.RowKit YtbdgncndhnnjoaaGreatDoor
set_option linter.unusedVariables false
set_option linter.unusedSimpArgs false
set_option maxHeartbeats 0
set_option maxRecDepth 100000
variable {C : World → Prop}
def puV (s : ByteArray) : Int := match Lib.parseUintB 16 s.data.toList with
 | .ok n => (n : Int)
 | .syntax => 0
 | .range => 65535
def puK (s : ByteArray) : Int := match Lib.parseUintB 16 s.data.toList with
 | .ok _ => 0
 | .syntax => 2
 | .range => 1
theorem puV_range (s : ByteArray) : 0 ≤ puV s ∧ puV s < 65536 := by
 unfold puV
 cases h : Lib.parseUintB 16 s.data.toList with
 | ok n => have := Lib.parseUintB_le h; show 0 ≤ (n : Int) ∧ (n : Int) < 65536; omega
 | _ => decide
theorem puK_cases (s : ByteArray) (h : ¬ puK s = 0) : puK s = 1 ∨ puK s = 2 := by
 unfold puK at *
 cases h2 : Lib.parseUintB 16 s.data.toList with
 | ok n => rw [h2] at h; exact absurd rfl h
 | _ => simp
theorem ipu (s : ByteArray) (hs : s.size ≤ 100000) (w : World) : Calls Tryz.prog 212 #[.string s, .int .i64 10, .int .i64 16] w fun e w' => e = .returned (.tuple #[.int .u64 (puV s), if puK s = 0 then .nilIface else .iface 255 (.int .i64 (puK s))]) ∧ Below w.heap.size w w' := by
 refine (Any.internal_strconv_ParseUint_10_at16 Ip.lays287 s (by omega) w).mono fun e w' ⟨he, hw⟩ => ⟨?_, ?_⟩
 ·rw [he]
  unfold puV puK
  cases Lib.parseUintB 16 s.data.toList <;> rfl
 ·rcases hw with rfl | rfl
  ·exact Below.refl _ _
  ·exact ⟨rfl, rfl, rfl, by rw [Lib.bytesWorld_size]; omega, fun j hj => Lib.bytesWorld_at_old w _ s j hj⟩
theorem c_ipuT (s : ByteArray) (hs : s.size ≤ 100000) (h : puK s = 0) : Ct S0 C 212 [vV (.string s), vV (.int .i64 10), vV (.int .i64 16)] [] [] [] [] (vT [vV (.int .u64 (puV s)), vV .nilIface]) :=
 ct_flatX (args := [.string s, .int .i64 10, .int .i64 16]) (r := .tuple #[.int .u64 (puV s), .nilIface]) (fun w hL _ => by have := ipu s hs w; rw [if_pos h] at this; exact this) (fun _ => rfl) (fun _ => rfl)
theorem c_ipuF (s : ByteArray) (hs : s.size ≤ 100000) (h : ¬ puK s = 0) : Ct S0 C 212 [vV (.string s), vV (.int .i64 10), vV (.int .i64 16)] [] [] [] [] (vT [vV (.int .u64 (puV s)), vI 255 (vV (.int .i64 (puK s)))]) :=
 ct_flatX (args := [.string s, .int .i64 10, .int .i64 16]) (r := .tuple #[.int .u64 (puV s), .iface 255 (.int .i64 (puK s))]) (fun w hL _ => by have := ipu s hs w; rw [if_neg h] at this; exact this) (fun _ => rfl) (fun _ => rfl)
theorem c_toErrX (fn s : ByteArray) (b bits k : Int) (hk : k = 1 ∨ k = 2) (hs : s.size ≤ 100000) : Ct S0 C 213 [vV (.string fn), vV (.string s), vV (.int .i64 b), vV (.int .i64 bits), vI 255 (vV (.int .i64 k))] [] [] [] [tD fun _ _ => True] (vI 257 (vW 0)) :=
 ct_flatD (args := [.string fn, .string s, .int .i64 b, .int .i64 bits, .iface 255 (.int .i64 k)]) _ (fun x => .iface 257 x) (fun w hL _ => (Ip.c_toErr fn s b bits k hk hs w hL.ip).mono fun e w' ⟨⟨N, he⟩, hb⟩ => ⟨⟨_, he, rfl, trivial⟩, hb⟩) (fun _ => rfl) (fun _ => rfl)
theorem c_puT (s : ByteArray) (hs : s.size ≤ 100000) (h : puK s = 0) : Ct S0 C 193 [vV (.string s), vV (.int .i64 10), vV (.int .i64 16)] [] [] [] [] (vT [vV (.int .u64 (puV s)), vV .nilIface]) := by
 refine xIn Tryz.f193 fun E0 w0 hL hC hk => ?_
 refine xR 31 [(5, dC (c_ipuT s hs h) [])] ?_
 exact (xRetC []) -- [vV (Value.int IntKind.u64 (puV s)), vV Value.nilIface]
theorem c_puF (s : ByteArray) (hs : s.size ≤ 100000) (h : ¬ puK s = 0) : Ct S0 C 193 [vV (.string s), vV (.int .i64 10), vV (.int .i64 16)] [] [] [] [tD fun _ _ => True] (vT [vV (.int .u64 (puV s)), vI 257 (vW 0)]) := by
 have hk2 := puK_cases s h
 refine xIn Tryz.f193 fun E0 w0 hL hC hk => ?_
 refine xR 35 [(5, dC (c_ipuF s hs h) []), (18, dC (c_toErrX ({ data := #[80, 97, 114, 115, 101, 85, 105, 110, 116] }) s (Int.ofNat 10) (Int.ofNat 16) (puK s) hk2 hs) [])] ?_
 exact (xRetC [0]) -- [vV (Value.int IntKind.u64 (puV s)), vI 257 [vW 0]]
def ptB (s : ByteArray) : Bool := if puK s = 0 then decide (itoaF (puV s) = s) else false
theorem wrap16 {x : Int} (h : 0 ≤ x ∧ x < 65536) : IntKind.wrap .u16 x = x := by
 simp [IntKind.wrap, IntKind.signed, IntKind.bits, go_sem]
 omega
def dW16 (x : Int) (h : 0 ≤ x ∧ x < 65536) : Dr S0 C := dEq (x := .int .u16 (IntKind.wrap .u16 x)) (y := .int .u16 x) (by rw [wrap16 h])
theorem c_portOf (s : ByteArray) (hs : s.size ≤ 100000) : Ct S0 C 195 [vV (.string s)] [] [] [] [] (vT [vV (.int .u16 (puV s)), vV (.bool (ptB s))]) := by
 have hr := puV_range s
 by_cases h : puK s = 0
 ·refine xIn Tryz.f195 fun E0 w0 hL hC hk => ?_
  refine xR 16 [(3, dC (c_puT s hs h) [])] ?_
  refine xR 15 [(1, dW16 (puV s) hr), (6, dW16 (puV s) hr), (7, dC (c_portText (puV s) hr.1 hr.2) []), (9, dB (sEq (itoaF (puV s)) s))] ?_
  exact xV (v' := vT [vV (.int .u16 (puV s)), vV (.bool (decide (itoaF (puV s) = s)))]) (by rw [show ptB s = _ from if_pos h]) (xRetC [])
 ·refine xIn Tryz.f195 fun E0 w0 hL hC hk => ?_
  refine xR 16 [(3, dC (c_puF s hs h) [])] ?_
  refine xR 15 [(1, dW16 (puV s) hr)] ?_
  exact xV (v' := vT [vV (.int .u16 (puV s)), vV (.bool false)]) (by rw [show ptB s = _ from if_neg h]) (xRetC [])
def daA (w : ByteArray) : ByteArray := Ip.cuA w ⟨#[45]⟩
def daB (w : ByteArray) : ByteArray := if Ip.cuC w ⟨#[45]⟩ = true then Ip.cuB w ⟨#[45]⟩ else Ip.cuA w ⟨#[45]⟩
def rgB (w : ByteArray) : Bool := ptB (daA w) && (ptB (daB w) && decide (puV (daA w) ≤ puV (daB w)))
theorem c_rangeOf (w : ByteArray) (q0 : w.size ≤ 100000) (q1 : (Ip.cuA w ⟨#[45]⟩).size ≤ 100000) (q2 : (Ip.cuB w ⟨#[45]⟩).size ≤ 100000) : Ct S0 C 168 [vV (.string w)] [] [] [] [] (vT [vG [vV (.int .u16 (puV (daA w))), vV (.int .u16 (puV (daB w)))], vV (.bool (rgB w))]) := by
 refine xIn Tryz.f168 fun E0 w0 hL hC hk => ?_
 cases h1 : Ip.cuC w { data := #[45] }
 ·cases h2 : ptB (Ip.cuA w { data := #[45] })
  ·refine xR 65 [(3, dC (c_cut w ({ data := #[45] }) (by omega)) []), (7, dB h1), (16, dC (c_portOf (Ip.cuA w { data := #[45] }) q1) []), (19, dB h2), (23, dC (c_portOf (Ip.cuA w { data := #[45] }) q1) []), (26, dB h2)] ?_
   exact xV (v' := vT [vG [vV (Value.int IntKind.u16 (puV (Ip.cuA w { data := #[45] }))), vV (Value.int IntKind.u16 (puV (Ip.cuA w { data := #[45] })))], vV (Value.bool false)]) (by simp [rgB, daA, daB, h1, h2]) (xRetC [])
  ·refine xR 65 [(3, dC (c_cut w ({ data := #[45] }) (by omega)) []), (7, dB h1), (16, dC (c_portOf (Ip.cuA w { data := #[45] }) q1) []), (19, dB h2), (23, dC (c_portOf (Ip.cuA w { data := #[45] }) q1) []), (26, dB h2), (39, dT (p := puV (Ip.cuA w { data := #[45] }) ≤ puV (Ip.cuA w { data := #[45] })) (by omega))] ?_
   exact xV (v' := vT [vG [vV (Value.int IntKind.u16 (puV (Ip.cuA w { data := #[45] }))), vV (Value.int IntKind.u16 (puV (Ip.cuA w { data := #[45] })))], vV (Value.bool true)]) (by simp [rgB, daA, daB, h1, h2]) (xRetC [])
 ·cases h2 : ptB (Ip.cuA w { data := #[45] })
  ·refine xR 62 [(3, dC (c_cut w ({ data := #[45] }) (by omega)) []), (7, dB h1), (14, dC (c_portOf (Ip.cuA w { data := #[45] }) q1) []), (17, dB h2), (21, dC (c_portOf (Ip.cuB w { data := #[45] }) q2) [])] ?_
   exact xV (v' := vT [vG [vV (Value.int IntKind.u16 (puV (Ip.cuA w { data := #[45] }))), vV (Value.int IntKind.u16 (puV (Ip.cuB w { data := #[45] })))], vV (Value.bool false)]) (by simp [rgB, daA, daB, h1, h2]) (xRetC [])
  ·cases h3 : ptB (Ip.cuB w { data := #[45] })
   ·refine xR 62 [(3, dC (c_cut w ({ data := #[45] }) (by omega)) []), (7, dB h1), (14, dC (c_portOf (Ip.cuA w { data := #[45] }) q1) []), (17, dB h2), (21, dC (c_portOf (Ip.cuB w { data := #[45] }) q2) []), (24, dB h3)] ?_
    exact xV (v' := vT [vG [vV (Value.int IntKind.u16 (puV (Ip.cuA w { data := #[45] }))), vV (Value.int IntKind.u16 (puV (Ip.cuB w { data := #[45] })))], vV (Value.bool false)]) (by simp [rgB, daA, daB, h1, h2, h3]) (xRetC [])
   ·refine xR 62 [(3, dC (c_cut w ({ data := #[45] }) (by omega)) []), (7, dB h1), (14, dC (c_portOf (Ip.cuA w { data := #[45] }) q1) []), (17, dB h2), (21, dC (c_portOf (Ip.cuB w { data := #[45] }) q2) []), (24, dB h3)] ?_
    exact xV (v' := vT [vG [vV (Value.int IntKind.u16 (puV (Ip.cuA w { data := #[45] }))), vV (Value.int IntKind.u16 (puV (Ip.cuB w { data := #[45] })))], vV (Value.bool (decide (puV (Ip.cuA w { data := #[45] }) ≤ puV (Ip.cuB w { data := #[45] }))))]) (by simp [rgB, daA, daB, h1, h2, h3]) (xRetC [])
end Go.Proofs.YtbdgncndhnnjoaaGreatDoor

namespace Go.Proofs.YtbdgncndhnnjoaaGreatDoor
open Go.RowKit YtbdgncndhnnjoaaGreatDoor
set_option linter.unusedVariables false
set_option linter.unusedSimpArgs false
set_option maxHeartbeats 0
set_option maxRecDepth 100000
variable {C : World → Prop}
def prtO (line at_ : Nat) (w : ByteArray) : Out :=
 if w.size = 0 then oP (fltI 190 line at_) else
 if rgB w = true then oR [] [] (vG [vV (.int .u16 (puV (daA w))), vV (.int .u16 (puV (daB w)))]) else oP (fltI 193 line at_)
theorem c_ports (g t h a n : DP) (line at_ : Nat) (w rest : ByteArray) (q0 : w.size ≤ 100000) (q1 : (Ip.cuA w ⟨#[45]⟩).size ≤ 100000) (q2 : (Ip.cuB w ⟨#[45]⟩).size ≤ 100000) : Cu S0 C 132 [vP 5 0] (rdr g t h a n line at_ w rest) [] (prtO line at_ w) := by
 refine xInU Tryz.f132 fun E0 w0 hL hC hk => ?_
 by_cases h1 : w.size = 0
 ·refine xR 22 [(5, dC (c_rangeOf w q0 q1 q2) [])] ?_
  exact xUp ((if_pos h1)) (xPc ((c_needW g t h a n line at_ w rest 193 (rgB w)).pan ((if_pos h1))) [0, 1, 2, 3, 4, 5, 6])
 ·by_cases h2 : rgB w = true
  ·refine xR 29 [(5, dC (c_rangeOf w q0 q1 q2) []), (8, dB h2), (14, dC ((c_needW g t h a n line at_ w rest 193 true).ret ((if_neg h1).trans ((if_pos rfl)))) [0, 1, 2, 3, 4, 5, 6])] ?_
   exact (xUr ((if_neg h1).trans ((if_pos h2))) (xRetC []))
  ·refine xR 22 [(5, dC (c_rangeOf w q0 q1 q2) [])] ?_
   exact xUp ((if_neg h1).trans ((if_neg h2))) (xPc ((c_needW g t h a n line at_ w rest 193 (rgB w)).pan ((if_neg h1).trans ((if_neg h2)))) [0, 1, 2, 3, 4, 5, 6])
abbrev prtD (l : List (Int × Int)) : DP := RowD 2 103 prtEl l
def prts (w r : ByteArray) : Nat → List (Int × Int)
 | 0 => []
 | j + 1 => prts w r j ++ [(puV (daA (wrd w r j)), puV (daB (wrd w r j)))]
theorem prts_len (w r : ByteArray) : ∀ j : Nat, (prts w r j).length = j
 | 0 => rfl
 | j + 1 => by simp [prts, prts_len w r j]
def lsP (line at_ : Nat) (w r fin : ByteArray) : Nat → Nat → Out
 | 0, j => oP (fltI 198 line (at_ + j))
 | f + 1, j =>
  if j ≠ 0 then
   if (wrd w r j).size ≠ 0 then
    if wrd w r j ≠ fin then
     if rgB (wrd w r j) = true then if j < 64 then lsP line at_ w r fin f (j + 1) else oP (fltI 198 line (at_ + j)) else oP (fltI 193 line (at_ + j))
    else oR [rdI line (at_ + j) (wrd w r j), rsI (rst r j)] [tD (prtD (prts w r j))] (vW 7)
   else oR [rdI line (at_ + j) (wrd w r j), rsI (rst r j)] [tD (prtD (prts w r j))] (vW 7)
  else if (wrd w r j).size = 0 then oP (fltI 190 line (at_ + j)) else if rgB (wrd w r j) = true then lsP line at_ w r fin f (j + 1) else oP (fltI 193 line (at_ + j))
theorem c_listP (g0 t h a n : DP) (line at_ : Nat) (word rest fin : ByteArray) (ha : at_ < 50000) (hw : ∀ j, (wrd word rest j).size ≤ 100000 ∧ (Ip.cuA (wrd word rest j) ⟨#[45]⟩).size ≤ 100000 ∧ (Ip.cuB (wrd word rest j) ⟨#[45]⟩).size ≤ 100000) : Cu S0 C 131 [vP 5 0, vV (.string fin), vF (.func 132) [vP 5 0] []] [tD g0, tD t, tD h, tD a, tD n] [rdI line at_ word, rsI rest] (lsP line at_ word rest fin 65 0) := by
 refine xInU Tryz.f131 fun E0 w0 hL hC hk => ?_
 refine xR 10 [] ?_
 refine xPack (vV (.slice none 0 0)) [] (prtD (prts word rest 0)) [7] [] (fun _ _ => ⟨rfl, row_nil _ _ _⟩) ?_
 refine xLp (fun (x : Nat) => [(7, vW 7)]) (fun (x : Nat) => [(5, rdI line (at_ + x) (wrd word rest x)), (6, rsI (rst rest x)), (7, tD (prtD (prts word rest x)))]) [9, 10, 11, 12, 13, 14, 15, 16, 17, 18, 19, 20, 21, 22, 23, 24, 25, 26, 27, 28, 8, 29, 30, 31, 32, 33, 34, 35, 36, 37, 38] (fun x => ∃ f, x + f = 64 ∧ lsP line at_ word rest fin 65 0 = lsP line at_ word rest fin (f + 1) x) (fun x => 65 - x) 0 ⟨64, rfl, rfl⟩ fun x d hx g => ?_
 obtain ⟨f, hf, e⟩ := hx
 refine xUo e ?_
 have hl := prts_len word rest x
 obtain ⟨hw1, hw2, hw3⟩ := hw x
 by_cases h1 : (↑x : Int) = 0
 ·by_cases h2 : (wrd word rest x).size = 0
  ·refine xR 28 [(1, dLenR 55 3 7 2 103 prtEl (prts word rest x) x hl), (2, dB (((iEq ((↑x : Int)) 0)).trans (DT h1)))] ?_
   exact xUp ((if_neg fun q => q (by omega)).trans ((if_pos h2))) (xPc ((c_ports g0 t h a n line (at_ + x) (wrd word rest x) (rst rest x) hw1 hw2 hw3).pan ((if_pos h2))) [0, 1, 2, 3, 4, 5, 6])
  ·by_cases h3 : rgB (wrd word rest x) = true
   ·refine xR 52 [(1, dLenR 55 3 7 2 103 prtEl (prts word rest x) x hl), (2, dB (((iEq ((↑x : Int)) 0)).trans (DT h1))), (19, dC ((c_ports g0 t h a n line (at_ + x) (wrd word rest x) (rst rest x) hw1 hw2 hw3).ret ((if_neg h2).trans ((if_pos h3)))) [0, 1, 2, 3, 4, 5, 6]), (24, dLenR 55 3 7 2 103 prtEl (prts word rest x) x hl), (25, dC ((c_room g0 t h a n line (at_ + x) (wrd word rest x) (rst rest x) x).ret ((if_pos (by omega)))) [0, 1, 2, 3, 4, 5, 6]), (29, dApp_prtEl (prts word rest x) 7 9 (puV (daA (wrd word rest x))) (puV (daB (wrd word rest x))) (by omega)), (32, dC (c_next g0 t h a n line (at_ + x) (wrd word rest x) (rst rest x) (by omega)) [0, 1, 2, 3, 4, 5, 6])] ?_
    exact xNx g (x + 1) [9, 10, 11, 12, 13, 14, 15, 16, 17, 18, 19, 20, 21, 22, 23, 24, 25, 26, 27, 28, 8, 29, 30, 31, 32, 33, 34, 35, 36, 37, 38] [0, 1, 2, 3, 4, 5, 6, 10] (by exact ⟨f - 1, by omega, e.trans (((if_neg fun q => q (by omega)).trans ((if_neg h2).trans ((if_pos h3)))).trans (by rw [show f - 1 + 1 = f by omega]))⟩) (by omega)
   ·refine xR 28 [(1, dLenR 55 3 7 2 103 prtEl (prts word rest x) x hl), (2, dB (((iEq ((↑x : Int)) 0)).trans (DT h1)))] ?_
    exact xUp ((if_neg fun q => q (by omega)).trans ((if_neg h2).trans ((if_neg h3)))) (xPc ((c_ports g0 t h a n line (at_ + x) (wrd word rest x) (rst rest x) hw1 hw2 hw3).pan ((if_neg h2).trans ((if_neg h3)))) [0, 1, 2, 3, 4, 5, 6])
 ·by_cases h2 : (wrd word rest x).size = 0
  ·refine xR 29 [(1, dLenR 55 3 7 2 103 prtEl (prts word rest x) x hl), (2, dB (((iEq ((↑x : Int)) 0)).trans (DF h1))), (8, dB (((sN0 (wrd word rest x))).trans (DNF h2)))] ?_
   exact (xUr ((if_pos (by omega)).trans ((if_neg fun q => q h2))) (xRetC [7]))
  ·by_cases h3 : wrd word rest x = fin
   ·refine xR 29 [(1, dLenR 55 3 7 2 103 prtEl (prts word rest x) x hl), (2, dB (((iEq ((↑x : Int)) 0)).trans (DF h1))), (8, dB (((sN0 (wrd word rest x))).trans (DNT h2))), (15, dB (((sNe (wrd word rest x) fin)).trans (DNF h3)))] ?_
    exact (xUr ((if_pos (by omega)).trans ((if_pos h2).trans ((if_neg fun q => q h3)))) (xRetC [7]))
   ·by_cases h4 : rgB (wrd word rest x) = true
    ·by_cases h5 : x < 64
     ·refine xR 52 [(1, dLenR 55 3 7 2 103 prtEl (prts word rest x) x hl), (2, dB (((iEq ((↑x : Int)) 0)).trans (DF h1))), (8, dB (((sN0 (wrd word rest x))).trans (DNT h2))), (15, dB (((sNe (wrd word rest x) fin)).trans (DNT h3))), (19, dC ((c_ports g0 t h a n line (at_ + x) (wrd word rest x) (rst rest x) hw1 hw2 hw3).ret ((if_neg h2).trans ((if_pos h4)))) [0, 1, 2, 3, 4, 5, 6]), (24, dLenR 55 3 7 2 103 prtEl (prts word rest x) x hl), (25, dC ((c_room g0 t h a n line (at_ + x) (wrd word rest x) (rst rest x) x).ret ((if_pos h5))) [0, 1, 2, 3, 4, 5, 6]), (29, dApp_prtEl (prts word rest x) 7 9 (puV (daA (wrd word rest x))) (puV (daB (wrd word rest x))) (by omega)), (32, dC (c_next g0 t h a n line (at_ + x) (wrd word rest x) (rst rest x) (by omega)) [0, 1, 2, 3, 4, 5, 6])] ?_
      exact xNx g (x + 1) [9, 10, 11, 12, 13, 14, 15, 16, 17, 18, 19, 20, 21, 22, 23, 24, 25, 26, 27, 28, 8, 29, 30, 31, 32, 33, 34, 35, 36, 37, 38] [0, 1, 2, 3, 4, 5, 6, 10] (by exact ⟨f - 1, by omega, e.trans (((if_pos (by omega)).trans ((if_pos h2).trans ((if_pos h3).trans ((if_pos h4).trans ((if_pos h5)))))).trans (by rw [show f - 1 + 1 = f by omega]))⟩) (by omega)
     ·refine xR 37 [(1, dLenR 55 3 7 2 103 prtEl (prts word rest x) x hl), (2, dB (((iEq ((↑x : Int)) 0)).trans (DF h1))), (8, dB (((sN0 (wrd word rest x))).trans (DNT h2))), (15, dB (((sNe (wrd word rest x) fin)).trans (DNT h3))), (19, dC ((c_ports g0 t h a n line (at_ + x) (wrd word rest x) (rst rest x) hw1 hw2 hw3).ret ((if_neg h2).trans ((if_pos h4)))) [0, 1, 2, 3, 4, 5, 6]), (24, dLenR 55 3 7 2 103 prtEl (prts word rest x) x hl)] ?_
      exact xUp ((if_pos (by omega)).trans ((if_pos h2).trans ((if_pos h3).trans ((if_pos h4).trans ((if_neg h5)))))) (xPc ((c_room g0 t h a n line (at_ + x) (wrd word rest x) (rst rest x) x).pan ((if_neg h5))) [0, 1, 2, 3, 4, 5, 6])
    ·refine xR 28 [(1, dLenR 55 3 7 2 103 prtEl (prts word rest x) x hl), (2, dB (((iEq ((↑x : Int)) 0)).trans (DF h1))), (8, dB (((sN0 (wrd word rest x))).trans (DNT h2))), (15, dB (((sNe (wrd word rest x) fin)).trans (DNT h3)))] ?_
     exact xUp ((if_pos (by omega)).trans ((if_pos h2).trans ((if_pos h3).trans ((if_neg h4))))) (xPc ((c_ports g0 t h a n line (at_ + x) (wrd word rest x) (rst rest x) hw1 hw2 hw3).pan ((if_neg h2).trans ((if_neg h4)))) [0, 1, 2, 3, 4, 5, 6])
end Go.Proofs.YtbdgncndhnnjoaaGreatDoor

namespace Go.Proofs.YtbdgncndhnnjoaaGreatDoor
open Go.RowKit YtbdgncndhnnjoaaGreatDoor
set_option linter.unusedVariables false
set_option linter.unusedSimpArgs false
set_option maxHeartbeats 0
set_option maxRecDepth 100000
variable {C : World → Prop}
def splD (l : List ByteArray) (v : Value) (T : List Blk) : Prop := Sl T 1 l.length (fun i _ => .string (Ip.tg l i)) v
theorem c_split (s sep : ByteArray) (hs : s.size < 4294967281) (h1 : 1 ≤ sep.size) : Ct S0 C 62 [vV (.string s), vV (.string sep)] [] [] [] [tD (splD (Ip.spl s sep))] (vW 0) :=
 ct_flatB (args := [.string s, .string sep]) (splD (Ip.spl s sep)) (fun x => x) (fun w hL _ => (Ip.c_Split s sep hs h1 w hL.ip).mono fun e w' ⟨g, he, h2, h3, hb⟩ => ⟨⟨_, [⟨g, .cells (Ip.av (Ip.spl s sep).length (Ip.fS (Ip.spl s sep))) 9 (0, 0)⟩], he, rfl, ⟨_, _, g, 0, rfl, fun _ => ⟨rfl, Ip.av (Ip.spl s sep).length (Ip.fS (Ip.spl s sep)), 9, _, List.mem_singleton.2 rfl, fun i j hi hj => by
  have : j = 0 := by omega
  subst this
  rw [show 0 + i * 1 + 0 = i by omega, Ip.av_get _ _ _ hi]
  rfl⟩⟩, fun b hm => by rw [List.mem_singleton.1 hm]; exact ⟨h2, h3⟩, by simp⟩, hb⟩) (fun _ => rfl) (fun _ => rfl)
def u8El (x : Int) (c : List Value) (T : List Blk) : Prop := c = [.int .u8 x] ∧ T = []
abbrev u8D (l : List Int) : DP := RowD 1 5 u8El l
def dApp_u8El (l : List Int) (b1 b2 : Nat) (x : Int) (hle : l.length < 500000) : Dr S0 C := dApp 41 41 5 1 (.int .u8 0) u8El l x b1 b2 5 [vV (.int .u8 x)] [] hle (fun _ _ => ⟨rfl, rfl⟩)
def risL (l : List Int) : Bool := risF (fun i => l.getD i 0) l.length
theorem c_risingD (l : List Int) (hl : l.length < 1000000) : Ct S0 C 71 [vW 0] [tD (u8D l)] [] [] [] (vV (.bool (risL l))) := by
 refine ct_join 1 (fun _ => u8D l) _ (fun v => [vV (v 0)]) (fun _ => rfl) rfl fun v B hv => ?_
 obtain ⟨F, h1, h2⟩ := (hv 0 (by decide)).sl
 refine c_rising _ _ _ _ ((h1.sub fun b hb => List.mem_flatMap.2 ⟨0, List.mem_range.2 (by decide), hb⟩).congr fun i j hi hj => ?_) hl
 have hg : l[i]? = some l[i] := List.getElem?_eq_getElem hi
 obtain ⟨cs, Te, ⟨rfl, -⟩, -, h3, -⟩ := h2 i _ hg
 have : j = 0 := by omega
 subst this
 rw [h3 0 _ rfl]
 show Value.int .u8 l[i] = Value.int .u8 (l.getD i 0)
 rw [List.getD_eq_getElem?_getD, hg]
 rfl
def prL (l : List ByteArray) : Nat → List Int
 | 0 => []
 | j + 1 => prL l j ++ [protoF (Ip.tg l j)]
theorem prL_len (l : List ByteArray) : ∀ j : Nat, (prL l j).length = j
 | 0 => rfl
 | j + 1 => by simp [prL, prL_len l j]
def coms (w : ByteArray) : List ByteArray := Ip.spl w ⟨#[44]⟩
theorem c_protosA (w : ByteArray) (hw : w = ⟨#[97, 110, 121]⟩) : Ct S0 C 127 [vV (.string w)] [] [] [] [tD (u8D [])] (vT [vW 0, vV (.bool true)]) := by
 refine xIn Tryz.f127 fun E0 w0 hL hC hk => ?_
 refine xR 17 [(3, dB ((sEq w ⟨#[97, 110, 121]⟩).trans (DT hw)))] ?_
 refine xPack (vV (.slice none 0 0)) [] (u8D []) [2] [] (fun _ _ => ⟨rfl, row_nil _ _ _⟩) ?_
 exact xRetC [0]
theorem c_protosN (w : ByteArray) (hw : ¬ w = ⟨#[97, 110, 121]⟩) (h2 : w.size ≤ 100000) (hn : (coms w).length < 400000) : Ct S0 C 127 [vV (.string w)] [] [] [] [tD (u8D (prL (coms w) (coms w).length))] (vT [vW 0, vV (.bool (risL (prL (coms w) (coms w).length)))]) := by
 refine xIn Tryz.f127 fun E0 w0 hL hC hk => ?_
 refine xR 22 [(3, dB (((sEq w ({ data := #[97, 110, 121] }))).trans (DF hw))), (6, dC (c_split w ({ data := #[44] }) (by omega) (by decide)) [])] ?_
 refine xOpen (D := splD (Ip.spl w ⟨#[44]⟩)) 0 fun v0 T0 hv => ?_
 obtain ⟨base, cap, b0, o, rfl, H⟩ := hv
 refine xPack (vV (.slice none 0 0)) [] (u8D (prL (coms w) 0)) [4] [] (fun _ _ => ⟨rfl, row_nil _ _ _⟩) ?_
 have hl0 : (coms w).length = (Ip.spl w ⟨#[44]⟩).length := rfl
 refine xR 4 [] ?_
 refine xLp (fun (x : Nat) => [(12, vV (.int .i64 (x : Int))), (4, vW 1)]) (fun (x : Nat) => [(1, tD (u8D (prL (coms w) x)))]) [13, 14, 15, 6, 16, 17, 18, 19, 20, 21] (fun x => x ≤ (coms w).length) (fun x => (coms w).length - x) 0 (by omega) fun x d hx g => ?_
 have hl := prL_len (coms w) x
 by_cases h1 : (↑x : Int) < (↑(Ip.spl w { data := #[44] }).length : Int)
 ·refine xR 28 [(0, dT h1), (1, dIxR 44 H cap x (by omega)), (2, dLdR1 9 0 H x 0 (o + x * 1) (by omega)), (6, dC (c_protoOf (Ip.tg (Ip.spl w { data := #[44] }) x)) []), (8, dApp_u8El (prL (coms w) x) 1 2 (protoF (Ip.tg (Ip.spl w { data := #[44] }) x)) (by omega)), (10, dW ((↑x : Int) + 1) ((↑(x + 1) : Int)) (by omega) (by omega) (by omega))] ?_
  exact xNx g (x + 1) [13, 14, 15, 6, 16, 17, 18, 19, 20, 21] [0, 3] (by omega) (by omega)
 ·obtain rfl : x = (coms w).length := by omega
  refine xR 15 [(0, dF h1), (3, dC (c_risingD (prL (coms w) (coms w).length) (by omega)) [1])] ?_
  exact xRetC [1]
def prF (w : ByteArray) : List Int := if w = ⟨#[97, 110, 121]⟩ then [] else prL (coms w) (coms w).length
def prB (w : ByteArray) : Bool := if w = ⟨#[97, 110, 121]⟩ then true else risL (prL (coms w) (coms w).length)
theorem c_protosOf (w : ByteArray) (h2 : w.size ≤ 100000) (hn : (coms w).length < 400000) : Ct S0 C 127 [vV (.string w)] [] [] [] [tD (u8D (prF w))] (vT [vW 0, vV (.bool (prB w))]) := by
 by_cases h : w = ⟨#[97, 110, 121]⟩
 ·rw [show prF w = _ from if_pos h, show prB w = _ from if_pos h]
  exact c_protosA w h
 ·rw [show prF w = _ from if_neg h, show prB w = _ from if_neg h]
  exact c_protosN w h h2 hn
end Go.Proofs.YtbdgncndhnnjoaaGreatDoor

namespace Go.Proofs.YtbdgncndhnnjoaaGreatDoor
open Go.RowKit YtbdgncndhnnjoaaGreatDoor
set_option linter.unusedVariables false
set_option linter.unusedSimpArgs false
set_option maxHeartbeats 0
set_option maxRecDepth 100000
variable {C : World → Prop}
abbrev Rd1 (α : Type) := Except (Int × Nat) α
def lsE (chk : ByteArray → Int) (fin : ByteArray) (u : Nat → ByteArray) : Nat → Nat → Rd1 Nat
 | 0, j => .error (198, j)
 | f + 1, j =>
  if j ≠ 0 ∧ ((u j).size = 0 ∨ u j = fin) then .ok j else
  if (u j).size = 0 then .error (190, j) else
  if chk (u j) ≠ 0 then .error (chk (u j), j) else
  if j < 64 then lsE chk fin u f (j + 1) else .error (198, j)
def nmC (w : ByteArray) : Int := if labF w = true then 0 else 191
def seC (w : ByteArray) : Int := if selB w = true then 0 else 195
def poC (w : ByteArray) : Int := if rgB w = true then 0 else 193
def outE {α : Type} (line at_ : Nat) (r : Rd1 α) (k : α → Out) : Out := match r with
 | .ok x => k x
 | .error (e, p) => oP (fltI e line (at_ + p))
theorem lsS_eq (line at_ : Nat) (w r fin : ByteArray) : ∀ f j : Nat, lsS line at_ w r fin f j = outE line at_ (lsE nmC fin (wrd w r) f j) fun k => oR [rdI line (at_ + k) (wrd w r k), rsI (rst r k)] [tD (RowD 1 9 strEl (wrds w r k))] (vW 7)
 | 0, j => rfl
 | f + 1, j => by
  have ih := lsS_eq line at_ w r fin f (j + 1)
  unfold lsS lsE
  by_cases h0 : j = 0
  ·subst h0
   have c0 : ¬ (0 ≠ 0 ∧ ((wrd w r 0).size = 0 ∨ wrd w r 0 = fin)) := fun q => q.1 rfl
   have c1 : ¬ (0 ≠ 0) := fun q => q rfl
   rw [if_neg c1, if_neg c0]
   by_cases h1 : (wrd w r 0).size = 0
   ·rw [if_pos h1, if_pos h1]; rfl
   ·rw [if_neg h1, if_neg h1]
    by_cases h2 : labF (wrd w r 0) = true
    ·have c2 : ¬ (nmC (wrd w r 0) ≠ 0) := by simp [nmC, h2]
     have c3 : 0 < 64 := by decide
     rw [if_pos h2, if_neg c2, if_pos c3]
     exact ih
    ·have c2 : nmC (wrd w r 0) ≠ 0 := by simp [nmC, h2]
     rw [if_neg h2, if_pos c2]
     simp [outE, nmC, h2]
  ·rw [if_pos h0]
   by_cases h1 : (wrd w r j).size = 0
   ·rw [if_neg (fun q => q h1), if_pos ⟨h0, .inl h1⟩]; rfl
   ·rw [if_pos h1]
    by_cases h3 : wrd w r j = fin
    ·rw [if_neg (fun q => q h3), if_pos ⟨h0, .inr h3⟩]; rfl
    ·have c0 : ¬ (j ≠ 0 ∧ ((wrd w r j).size = 0 ∨ wrd w r j = fin)) := fun q => q.2.elim h1 h3
     rw [if_pos h3, if_neg c0, if_neg h1]
     by_cases h2 : labF (wrd w r j) = true
     ·have c2 : ¬ (nmC (wrd w r j) ≠ 0) := by simp [nmC, h2]
      rw [if_pos h2, if_neg c2]
      by_cases h4 : j < 64
      ·rw [if_pos h4, if_pos h4]; exact ih
      ·rw [if_neg h4, if_neg h4]; rfl
     ·have c2 : nmC (wrd w r j) ≠ 0 := by simp [nmC, h2]
      rw [if_neg h2, if_pos c2]
      simp [outE, nmC, h2]
theorem lsL_eq (l : List Men) (line at_ : Nat) (w r fin : ByteArray) : ∀ f j : Nat, lsL l line at_ w r fin f j = outE line at_ (lsE seC fin (wrd w r) f j) fun k => oR [gap, rdM 7 line (at_ + k) (wrd w r k), rsI (rst r k)] [tD (menD (mens l line at_ w r k)), tD (selLD (sels w r k))] (vW 8)
 | 0, j => rfl
 | f + 1, j => by
  have ih := lsL_eq l line at_ w r fin f (j + 1)
  unfold lsL lsE
  by_cases h0 : j = 0
  ·subst h0
   have c0 : ¬ (0 ≠ 0 ∧ ((wrd w r 0).size = 0 ∨ wrd w r 0 = fin)) := fun q => q.1 rfl
   have c1 : ¬ (0 ≠ 0) := fun q => q rfl
   rw [if_neg c1, if_neg c0]
   by_cases h1 : (wrd w r 0).size = 0
   ·rw [if_pos h1, if_pos h1]; rfl
   ·rw [if_neg h1, if_neg h1]
    by_cases h2 : selB (wrd w r 0) = true
    ·have c2 : ¬ (seC (wrd w r 0) ≠ 0) := by simp [seC, h2]
     have c3 : 0 < 64 := by decide
     rw [if_pos h2, if_neg c2, if_pos c3]
     exact ih
    ·have c2 : seC (wrd w r 0) ≠ 0 := by simp [seC, h2]
     rw [if_neg h2, if_pos c2]
     simp [outE, seC, h2]
  ·rw [if_pos h0]
   by_cases h1 : (wrd w r j).size = 0
   ·rw [if_neg (fun q => q h1), if_pos ⟨h0, .inl h1⟩]; rfl
   ·rw [if_pos h1]
    by_cases h3 : wrd w r j = fin
    ·rw [if_neg (fun q => q h3), if_pos ⟨h0, .inr h3⟩]; rfl
    ·have c0 : ¬ (j ≠ 0 ∧ ((wrd w r j).size = 0 ∨ wrd w r j = fin)) := fun q => q.2.elim h1 h3
     rw [if_pos h3, if_neg c0, if_neg h1]
     by_cases h2 : selB (wrd w r j) = true
     ·have c2 : ¬ (seC (wrd w r j) ≠ 0) := by simp [seC, h2]
      rw [if_pos h2, if_neg c2]
      by_cases h4 : j < 64
      ·rw [if_pos h4, if_pos h4]; exact ih
      ·rw [if_neg h4, if_neg h4]; rfl
     ·have c2 : seC (wrd w r j) ≠ 0 := by simp [seC, h2]
      rw [if_neg h2, if_pos c2]
      simp [outE, seC, h2]
theorem lsP_eq (line at_ : Nat) (w r fin : ByteArray) : ∀ f j : Nat, lsP line at_ w r fin f j = outE line at_ (lsE poC fin (wrd w r) f j) fun k => oR [rdI line (at_ + k) (wrd w r k), rsI (rst r k)] [tD (prtD (prts w r k))] (vW 7)
 | 0, j => rfl
 | f + 1, j => by
  have ih := lsP_eq line at_ w r fin f (j + 1)
  unfold lsP lsE
  by_cases h0 : j = 0
  ·subst h0
   have c0 : ¬ (0 ≠ 0 ∧ ((wrd w r 0).size = 0 ∨ wrd w r 0 = fin)) := fun q => q.1 rfl
   have c1 : ¬ (0 ≠ 0) := fun q => q rfl
   rw [if_neg c1, if_neg c0]
   by_cases h1 : (wrd w r 0).size = 0
   ·rw [if_pos h1, if_pos h1]; rfl
   ·rw [if_neg h1, if_neg h1]
    by_cases h2 : rgB (wrd w r 0) = true
    ·have c2 : ¬ (poC (wrd w r 0) ≠ 0) := by simp [poC, h2]
     have c3 : 0 < 64 := by decide
     rw [if_pos h2, if_neg c2, if_pos c3]
     exact ih
    ·have c2 : poC (wrd w r 0) ≠ 0 := by simp [poC, h2]
     rw [if_neg h2, if_pos c2]
     simp [outE, poC, h2]
  ·rw [if_pos h0]
   by_cases h1 : (wrd w r j).size = 0
   ·rw [if_neg (fun q => q h1), if_pos ⟨h0, .inl h1⟩]; rfl
   ·rw [if_pos h1]
    by_cases h3 : wrd w r j = fin
    ·rw [if_neg (fun q => q h3), if_pos ⟨h0, .inr h3⟩]; rfl
    ·have c0 : ¬ (j ≠ 0 ∧ ((wrd w r j).size = 0 ∨ wrd w r j = fin)) := fun q => q.2.elim h1 h3
     rw [if_pos h3, if_neg c0, if_neg h1]
     by_cases h2 : rgB (wrd w r j) = true
     ·have c2 : ¬ (poC (wrd w r j) ≠ 0) := by simp [poC, h2]
      rw [if_pos h2, if_neg c2]
      by_cases h4 : j < 64
      ·rw [if_pos h4, if_pos h4]; exact ih
      ·rw [if_neg h4, if_neg h4]; rfl
     ·have c2 : poC (wrd w r j) ≠ 0 := by simp [poC, h2]
      rw [if_neg h2, if_pos c2]
      simp [outE, poC, h2]
def nnE (tl : ByteArray → Bool) (count : Nat) (u : Nat → ByteArray) : Rd1 Unit :=
 if count < 64 then
  if (u 1).size = 0 then .error (190, 1) else
  if labF (u 1) = true then
   if tl (u 1) = true then .error (197, 1) else
   if u 2 = ⟨#[61]⟩ then .ok () else .error (190, 2)
  else .error (191, 1)
 else .error (198, 0)
theorem newNameO_eq (G T : List Nam) (H : List Hst) (k : Int) (count line at_ : Nat) (w r : ByteArray) : newNameO G T H k count line at_ w r = outE line at_ (nnE (tellL G T H k) count (wrd w r)) fun _ => oR [rdI line (at_ + 3) (wrd w r 3), rsI (rst r 3)] [] (vV (.string (wrd w r 1))) := by
 unfold newNameO nnE
 repeat' split
 all_goals first | rfl | simp_all [wrd, rst]
end Go.Proofs.YtbdgncndhnnjoaaGreatDoor

namespace Go.Proofs.YtbdgncndhnnjoaaGreatDoor
open Go.RowKit YtbdgncndhnnjoaaGreatDoor
set_option linter.unusedVariables false
set_option linter.unusedSimpArgs false
set_option maxHeartbeats 0
set_option maxRecDepth 100000
variable {C : World → Prop}
theorem outE_ok {α : Type} {line at_ : Nat} {r : Rd1 α} {k : α → Out} {x : α} (h : r = .ok x) : outE line at_ r k = k x := by subst h; rfl
theorem outE_err {α : Type} {line at_ : Nat} {r : Rd1 α} {k : α → Out} {e : Int} {p : Nat} (h : r = .error (e, p)) : outE line at_ r k = oP (fltI e line (at_ + p)) := by subst h; rfl
theorem c_newNameE (G T : List Nam) (H : List Hst) (a n : DP) (k : Int) (count line at_ : Nat) (word rest : ByteArray) (ha : at_ < 50000) (hG : G.length < 1000000) (hT : T.length < 1000000) (hH : H.length < 1000000) : Cu S0 C 122 [vP 5 0, vV (.int .u8 k), vV (.int .i64 (count : Int))] [tD (namD G), tD (namD T), tD (hstD H), tD a, tD n] [rdI line at_ word, rsI rest] (outE line at_ (nnE (tellL G T H k) count (wrd word rest)) fun _ => oR [rdI line (at_ + 3) (wrd word rest 3), rsI (rst rest 3)] [] (vV (.string (wrd word rest 1)))) := by
 rw [← newNameO_eq]
 exact c_newName G T H a n k count line at_ word rest ha hG hT hH
theorem c_listSE (g0 t h a n : DP) (line at_ : Nat) (word rest fin : ByteArray) (ha : at_ < 50000) : Cu S0 C 161 [vP 5 0, vV (.string fin), vF (.func 162) [vP 5 0] []] [tD g0, tD t, tD h, tD a, tD n] [rdI line at_ word, rsI rest] (outE line at_ (lsE nmC fin (wrd word rest) 65 0) fun k => oR [rdI line (at_ + k) (wrd word rest k), rsI (rst rest k)] [tD (RowD 1 9 strEl (wrds word rest k))] (vW 7)) := by
 rw [← lsS_eq]
 exact c_listS g0 t h a n line at_ word rest fin ha
theorem c_listLE (g0 t h a : DP) (l : List Men) (line at_ : Nat) (word rest fin : ByteArray) (ha : at_ < 50000) (hl : l.length < 400000) (hw : ∀ j, (wrd word rest j).size ≤ 100000) (hb : ∀ j, (colB (wrd word rest j)).size ≤ 200000) : Cu S0 C 129 [vP 5 0, vV (.string fin), vF (.func 130) [vP 5 0] []] [tD g0, tD t, tD h, tD a] [tD (menD l), rdI line at_ word, rsI rest] (outE line at_ (lsE seC fin (wrd word rest) 65 0) fun k => oR [gap, rdM 7 line (at_ + k) (wrd word rest k), rsI (rst rest k)] [tD (menD (mens l line at_ word rest k)), tD (selLD (sels word rest k))] (vW 8)) := by
 rw [← lsL_eq]
 exact c_listL g0 t h a l line at_ word rest fin ha hl hw hb
theorem c_listPE (g0 t h a n : DP) (line at_ : Nat) (word rest fin : ByteArray) (ha : at_ < 50000) (hw : ∀ j, (wrd word rest j).size ≤ 100000 ∧ (Ip.cuA (wrd word rest j) ⟨#[45]⟩).size ≤ 100000 ∧ (Ip.cuB (wrd word rest j) ⟨#[45]⟩).size ≤ 100000) : Cu S0 C 131 [vP 5 0, vV (.string fin), vF (.func 132) [vP 5 0] []] [tD g0, tD t, tD h, tD a, tD n] [rdI line at_ word, rsI rest] (outE line at_ (lsE poC fin (wrd word rest) 65 0) fun k => oR [rdI line (at_ + k) (wrd word rest k), rsI (rst rest k)] [tD (prtD (prts word rest k))] (vW 7)) := by
 rw [← lsP_eq]
 exact c_listP g0 t h a n line at_ word rest fin ha hw
def dApp_namEl (l : List Nam) (b1 b2 : Nat) (s : ByteArray) (k : Nat) (v : Value) (T0 : List Blk) (ws : List ByteArray) (hv : RowD 1 9 strEl ws v T0) (hle : l.length < 500000) (h1 : one1 (vV v) = true) : Dr S0 C := dApp 22 22 46 2 (.agg #[.string ⟨#[]⟩, .slice none 0 0]) namEl l ⟨s, ws⟩ b1 b2 46 [vV (.string s), vV v] [(k, tX T0)] hle (fun E h => ⟨v, rfl, by
 show RowD 1 9 strEl ws v (T0 ++ [])
 rw [List.append_nil]
 exact hv⟩) (hq := by
 have : ([vV (.string s), vV v].all one1) = true := by
  show (one1 (vV (.string s)) && (one1 (vV v) && true)) = true
  rw [h1]
  rfl
 rw [this]
 rfl)
def nlG (k : Int) (G T : List Nam) (H : List Hst) (line at_ : Nat) (w r : ByteArray) : Out :=
 outE line at_ (nnE (tellL G T H k) G.length (wrd w r)) fun _ =>
 outE line (at_ + 3) (lsE nmC ⟨#[]⟩ (wrd (wrd w r 3) (rst r 3)) 65 0) fun j =>
 oR [gap, rdX 4 0 1 2 3 line (at_ + 3 + j) (wrd (wrd w r 3) (rst r 3) j), rsI (rst (rst r 3) j)] [tD (namD (G ++ [⟨wrd w r 1, wrds (wrd w r 3) (rst r 3) j⟩]))] (vW 7)
theorem c_nlG (k : Int) (G T : List Nam) (H : List Hst) (a n : DP) (line at_ : Nat) (w r : ByteArray) (ha : at_ < 10000) (hG : G.length < 500000) (hT : T.length < 1000000) (hH : H.length < 1000000) : Cu S0 C 121 [vP 5 0, vV (.int .u8 k), vW 4] [tD (namD T), tD (hstD H), tD a, tD n] [tD (namD G), rdX 4 0 1 2 3 line at_ w, rsI r] (nlG k G T H line at_ w r) := by
 refine xInU Tryz.f121 fun E0 w0 hL hC hk => ?_
 rcases hn : nnE (tellL G T H k) G.length (wrd w r) with ⟨e1, p1⟩ | x1
 ·refine xR 10 [(4, dLenR 22 3 4 2 46 namEl G G.length rfl)] ?_
  exact xUp (outE_err hn) (xPc ((c_newNameE G T H a n k G.length line at_ w r (by omega) (by omega) hT hH).pan (outE_err hn)) [4, 0, 1, 2, 3, 5, 6])
 ·rcases hl : lsE nmC ⟨#[]⟩ (wrd (wrd w r 3) (rst r 3)) 65 0 with ⟨e2, p2⟩ | x2
  ·refine xR 20 [(4, dLenR 22 3 4 2 46 namEl G G.length rfl), (5, dC ((c_newNameE G T H a n k G.length line at_ w r (by omega) (by omega) hT hH).ret (outE_ok hn)) [4, 0, 1, 2, 3, 5, 6])] ?_
   exact xUp ((outE_ok hn).trans (outE_err hl)) (xPc ((c_listSE (namD G) (namD T) (hstD H) a n line (at_ + 3) (wrd w r 3) (rst r 3) ⟨#[]⟩ (by omega)).pan (outE_err hl)) [4, 0, 1, 2, 3, 5, 6])
  ·refine xR 21 [(4, dLenR 22 3 4 2 46 namEl G G.length rfl), (5, dC ((c_newNameE G T H a n k G.length line at_ w r (by omega) (by omega) hT hH).ret (outE_ok hn)) [4, 0, 1, 2, 3, 5, 6]), (12, dC ((c_listSE (namD G) (namD T) (hstD H) a n line (at_ + 3) (wrd w r 3) (rst r 3) ⟨#[]⟩ (by omega)).ret (outE_ok hl)) [4, 0, 1, 2, 3, 5, 6])] ?_
   refine xOpen (D := RowD 1 9 strEl (wrds (wrd w r 3) (rst r 3) x2)) 7 fun v0 T0 hv => ?_
   obtain ⟨base, cap, rfl⟩ := RowD.len hv
   refine xR 3 [(2, dApp_namEl G 4 8 (wrd w r 1) 7 (.slice base (wrds (wrd w r 3) (rst r 3) x2).length cap) T0 (wrds (wrd w r 3) (rst r 3) x2) hv hG rfl)] ?_
   refine xR 2 [] ?_
   exact (xUr ((outE_ok hn).trans ((outE_ok hl))) (xRetC [9]))
end Go.Proofs.YtbdgncndhnnjoaaGreatDoor

namespace Go.Proofs.YtbdgncndhnnjoaaGreatDoor
open Go.RowKit YtbdgncndhnnjoaaGreatDoor
set_option linter.unusedVariables false
set_option linter.unusedSimpArgs false
set_option maxHeartbeats 0
set_option maxRecDepth 100000
variable {C : World → Prop}
def nlT (k : Int) (G T : List Nam) (H : List Hst) (line at_ : Nat) (w r : ByteArray) : Out :=
 outE line at_ (nnE (tellL G T H k) T.length (wrd w r)) fun _ =>
 outE line (at_ + 3) (lsE nmC ⟨#[]⟩ (wrd (wrd w r 3) (rst r 3)) 65 0) fun j =>
 oR [gap, rdX 0 4 1 2 3 line (at_ + 3 + j) (wrd (wrd w r 3) (rst r 3) j), rsI (rst (rst r 3) j)] [tD (namD (T ++ [⟨wrd w r 1, wrds (wrd w r 3) (rst r 3) j⟩]))] (vW 7)
theorem c_nlT (k : Int) (G T : List Nam) (H : List Hst) (a n : DP) (line at_ : Nat) (w r : ByteArray) (ha : at_ < 10000) (hG : G.length < 1000000) (hT : T.length < 500000) (hH : H.length < 1000000) : Cu S0 C 121 [vP 5 0, vV (.int .u8 k), vW 4] [tD (namD G), tD (hstD H), tD a, tD n] [tD (namD T), rdX 0 4 1 2 3 line at_ w, rsI r] (nlT k G T H line at_ w r) := by
 refine xInU Tryz.f121 fun E0 w0 hL hC hk => ?_
 rcases hn : nnE (tellL G T H k) T.length (wrd w r) with ⟨e1, p1⟩ | x1
 ·refine xR 10 [(4, dLenR 22 3 4 2 46 namEl T T.length rfl)] ?_
  exact xUp (outE_err hn) (xPc ((c_newNameE G T H a n k T.length line at_ w r (by omega) (by omega) (by omega) hH).pan (outE_err hn)) [0, 4, 1, 2, 3, 5, 6])
 ·rcases hl : lsE nmC ⟨#[]⟩ (wrd (wrd w r 3) (rst r 3)) 65 0 with ⟨e2, p2⟩ | x2
  ·refine xR 20 [(4, dLenR 22 3 4 2 46 namEl T T.length rfl), (5, dC ((c_newNameE G T H a n k T.length line at_ w r (by omega) (by omega) (by omega) hH).ret (outE_ok hn)) [0, 4, 1, 2, 3, 5, 6])] ?_
   exact xUp ((outE_ok hn).trans (outE_err hl)) (xPc ((c_listSE (namD G) (namD T) (hstD H) a n line (at_ + 3) (wrd w r 3) (rst r 3) ⟨#[]⟩ (by omega)).pan (outE_err hl)) [0, 4, 1, 2, 3, 5, 6])
  ·refine xR 21 [(4, dLenR 22 3 4 2 46 namEl T T.length rfl), (5, dC ((c_newNameE G T H a n k T.length line at_ w r (by omega) (by omega) (by omega) hH).ret (outE_ok hn)) [0, 4, 1, 2, 3, 5, 6]), (12, dC ((c_listSE (namD G) (namD T) (hstD H) a n line (at_ + 3) (wrd w r 3) (rst r 3) ⟨#[]⟩ (by omega)).ret (outE_ok hl)) [0, 4, 1, 2, 3, 5, 6])] ?_
   refine xOpen (D := RowD 1 9 strEl (wrds (wrd w r 3) (rst r 3) x2)) 7 fun v0 T0 hv => ?_
   obtain ⟨base, cap, rfl⟩ := RowD.len hv
   refine xR 3 [(2, dApp_namEl T 4 8 (wrd w r 1) 7 (.slice base (wrds (wrd w r 3) (rst r 3) x2).length cap) T0 (wrds (wrd w r 3) (rst r 3) x2) hv hT rfl)] ?_
   refine xR 2 [] ?_
   exact (xUr ((outE_ok hn).trans ((outE_ok hl))) (xRetC [9]))
def grO (G T : List Nam) (H : List Hst) (line at_ : Nat) (w r : ByteArray) : Out :=
 outE line at_ (nnE (tellL G T H 3) G.length (wrd w r)) fun _ =>
 outE line (at_ + 3) (lsE nmC ⟨#[]⟩ (wrd (wrd w r 3) (rst r 3)) 65 0) fun j =>
 oR [gap, rdX 7 0 1 2 3 line (at_ + 3 + j) (wrd (wrd w r 3) (rst r 3) j), rsI (rst (rst r 3) j)] [tD (namD (G ++ [⟨wrd w r 1, wrds (wrd w r 3) (rst r 3) j⟩]))] (vT [])
def tgO (G T : List Nam) (H : List Hst) (line at_ : Nat) (w r : ByteArray) : Out :=
 outE line at_ (nnE (tellL G T H 4) T.length (wrd w r)) fun _ =>
 outE line (at_ + 3) (lsE nmC ⟨#[]⟩ (wrd (wrd w r 3) (rst r 3)) 65 0) fun j =>
 oR [gap, rdX 0 7 1 2 3 line (at_ + 3 + j) (wrd (wrd w r 3) (rst r 3) j), rsI (rst (rst r 3) j)] [tD (namD (T ++ [⟨wrd w r 1, wrds (wrd w r 3) (rst r 3) j⟩]))] (vT [])
theorem c_group (G T : List Nam) (H : List Hst) (a n : DP) (line at_ : Nat) (w r : ByteArray) (ha : at_ < 10000) (hG : G.length < 500000) (hT : T.length < 1000000) (hH : H.length < 1000000) : Cu S0 C 97 [vP 5 0] [tD (namD T), tD (hstD H), tD a, tD n] [tD (namD G), rdX 4 0 1 2 3 line at_ w, rsI r] (grO G T H line at_ w r) := by
 refine xInU Tryz.f97 fun E0 w0 hL hC hk => ?_
 rcases h1 : nnE (tellL G T H 3) G.length (wrd w r) with ⟨e1, p1⟩ | x1
 ·refine xR 8 [] ?_
  exact xUp ((outE_err h1)) (xPc ((c_nlG 3 G T H a n line at_ w r ha hG hT hH).pan ((outE_err h1))) [0, 1, 2, 3, 4, 5, 6])
 ·rcases h2 : lsE nmC { data := #[] } (wrd (wrd w r 3) (rst r 3)) 65 0 with ⟨e2, p2⟩ | x2
  ·refine xR 8 [] ?_
   exact xUp ((outE_ok h1).trans ((outE_err h2))) (xPc ((c_nlG 3 G T H a n line at_ w r ha hG hT hH).pan ((outE_ok h1).trans ((outE_err h2)))) [0, 1, 2, 3, 4, 5, 6])
  ·refine xR 14 [(7, dC ((c_nlG 3 G T H a n line at_ w r ha hG hT hH).ret ((outE_ok h1).trans ((outE_ok h2)))) [0, 1, 2, 3, 4, 5, 6])] ?_
   exact (xUr ((outE_ok h1).trans ((outE_ok h2))) (xRetC [7]))
theorem c_tag (G T : List Nam) (H : List Hst) (a n : DP) (line at_ : Nat) (w r : ByteArray) (ha : at_ < 10000) (hG : G.length < 1000000) (hT : T.length < 500000) (hH : H.length < 1000000) : Cu S0 C 98 [vP 5 0] [tD (namD G), tD (hstD H), tD a, tD n] [tD (namD T), rdX 0 4 1 2 3 line at_ w, rsI r] (tgO G T H line at_ w r) := by
 refine xInU Tryz.f98 fun E0 w0 hL hC hk => ?_
 rcases h1 : nnE (tellL G T H 4) T.length (wrd w r) with ⟨e1, p1⟩ | x1
 ·refine xR 8 [] ?_
  exact xUp ((outE_err h1)) (xPc ((c_nlT 4 G T H a n line at_ w r ha hG hT hH).pan ((outE_err h1))) [0, 1, 2, 3, 4, 5, 6])
 ·rcases h2 : lsE nmC { data := #[] } (wrd (wrd w r 3) (rst r 3)) 65 0 with ⟨e2, p2⟩ | x2
  ·refine xR 8 [] ?_
   exact xUp ((outE_ok h1).trans ((outE_err h2))) (xPc ((c_nlT 4 G T H a n line at_ w r ha hG hT hH).pan ((outE_ok h1).trans ((outE_err h2)))) [0, 1, 2, 3, 4, 5, 6])
  ·refine xR 14 [(7, dC ((c_nlT 4 G T H a n line at_ w r ha hG hT hH).ret ((outE_ok h1).trans ((outE_ok h2)))) [0, 1, 2, 3, 4, 5, 6])] ?_
   exact (xUr ((outE_ok h1).trans ((outE_ok h2))) (xRetC [7]))
end Go.Proofs.YtbdgncndhnnjoaaGreatDoor

namespace Go.Proofs.YtbdgncndhnnjoaaGreatDoor
open Go.RowKit YtbdgncndhnnjoaaGreatDoor
set_option linter.unusedVariables false
set_option linter.unusedSimpArgs false
set_option maxHeartbeats 0
set_option maxRecDepth 100000
variable {C : World → Prop}
def dApp_hstEl (l : List Hst) (b1 b2 : Nat) (s : ByteArray) (v6 : Bool) (hi lo b : Int) (hle : l.length < 500000) : Dr S0 C := dApp 23 23 53 5 (.agg #[.string ⟨#[]⟩, .bool false, .int .u64 0, .int .u64 0, .int .u8 0]) hstEl l ⟨s, ⟨v6, hi, lo, b⟩⟩ b1 b2 53 [vV (.string s), vV (.bool v6), vV (.int .u64 hi), vV (.int .u64 lo), vV (.int .u8 b)] [] hle (fun _ _ => ⟨rfl, rfl⟩)
def hsO (G T : List Nam) (H : List Hst) (line at_ : Nat) (w r : ByteArray) : Out :=
 outE line at_ (nnE (tellL G T H 5) H.length (wrd w r)) fun _ =>
 if (wrd w r 3).size = 0 then oP (fltI 190 line (at_ + 3)) else
 if decide (Ip.rpE (wrd w r 3) = 0) = true then
 oR [gap, rdX 0 1 7 2 3 line (at_ + 3 + 1) (wrd w r 4), rsI (rst r 4)] [tD (hstD (H ++ [⟨wrd w r 1, rpN (wrd w r 3)⟩]))] (vT [])
 else oP (fltI 192 line (at_ + 3))
theorem c_host (G T : List Nam) (H : List Hst) (a n : DP) (line at_ : Nat) (w r : ByteArray) (ha : at_ < 10000) (hG : G.length < 1000000) (hT : T.length < 1000000) (hH : H.length < 500000) (hw : (wrd w r 3).size ≤ 200000) : Cu S0 C 99 [vP 5 0] [tD (namD G), tD (namD T), tD a, tD n] [tD (hstD H), rdX 0 1 4 2 3 line at_ w, rsI r] (hsO G T H line at_ w r) := by
 refine xInU Tryz.f99 fun E0 w0 hL hC hk => ?_
 rcases h1 : nnE (tellL G T H 5) H.length (wrd w r) with ⟨e1, p1⟩ | x1
 ·refine xR 9 [(6, dLenR 23 3 4 5 53 hstEl H H.length rfl)] ?_
  exact xUp ((outE_err h1)) (xPc ((c_newNameE G T H a n 5 H.length line at_ w r (by omega) hG hT (by omega)).pan ((outE_err h1))) [0, 1, 4, 2, 3, 5, 6])
 ·by_cases h2 : (wrd w r 3).size = 0
  ·refine xR 31 [(6, dLenR 23 3 4 5 53 hstEl H H.length rfl), (7, dC ((c_newNameE G T H a n 5 H.length line at_ w r (by omega) hG hT (by omega)).ret ((outE_ok h1))) [0, 1, 4, 2, 3, 5, 6]), (13, dC (c_readPrefix (wrd w r 3) hw) []), (22, dB (iEq (Ip.rpE (wrd w r 3)) 0))] ?_
   exact xUp ((outE_ok h1).trans ((if_pos h2))) (xPc ((c_needW (namD G) (namD T) (hstD H) a n line (at_ + 3) (wrd w r 3) (rst r 3) 192 (decide (Ip.rpE (wrd w r 3) = 0))).pan ((if_pos h2))) [0, 1, 4, 2, 3, 5, 6])
  ·by_cases h3 : decide (Ip.rpE (wrd w r 3) = 0) = true
   ·refine xR 39 [(6, dLenR 23 3 4 5 53 hstEl H H.length rfl), (7, dC ((c_newNameE G T H a n 5 H.length line at_ w r (by omega) hG hT (by omega)).ret ((outE_ok h1))) [0, 1, 4, 2, 3, 5, 6]), (13, dC (c_readPrefix (wrd w r 3) hw) []), (22, dB (iEq (Ip.rpE (wrd w r 3)) 0)), (23, dC ((c_needW (namD G) (namD T) (hstD H) a n line (at_ + 3) (wrd w r 3) (rst r 3) 192 (decide (Ip.rpE (wrd w r 3) = 0))).ret ((if_neg h2).trans ((if_pos h3)))) [0, 1, 4, 2, 3, 5, 6]), (25, dC (c_next (namD G) (namD T) (hstD H) a n line (at_ + 3) (wrd w r 3) (rst r 3) (by omega)) [0, 1, 4, 2, 3, 5, 6]), (36, dApp_hstEl H 4 8 (wrd w r 1) ((rpN (wrd w r 3)).v6) ((rpN (wrd w r 3)).hi) ((rpN (wrd w r 3)).lo) ((rpN (wrd w r 3)).bits) hH)] ?_
    exact (xUr ((outE_ok h1).trans ((if_neg h2).trans ((if_pos h3)))) (xRetC [9]))
   ·refine xR 31 [(6, dLenR 23 3 4 5 53 hstEl H H.length rfl), (7, dC ((c_newNameE G T H a n 5 H.length line at_ w r (by omega) hG hT (by omega)).ret ((outE_ok h1))) [0, 1, 4, 2, 3, 5, 6]), (13, dC (c_readPrefix (wrd w r 3) hw) []), (22, dB (iEq (Ip.rpE (wrd w r 3)) 0))] ?_
    exact xUp ((outE_ok h1).trans ((if_neg h2).trans ((if_neg h3)))) (xPc ((c_needW (namD G) (namD T) (hstD H) a n line (at_ + 3) (wrd w r 3) (rst r 3) 192 (decide (Ip.rpE (wrd w r 3) = 0))).pan ((if_neg h2).trans ((if_neg h3)))) [0, 1, 4, 2, 3, 5, 6])
end Go.Proofs.YtbdgncndhnnjoaaGreatDoor

namespace Go.Proofs.YtbdgncndhnnjoaaGreatDoor
open Go.RowKit YtbdgncndhnnjoaaGreatDoor
set_option linter.unusedVariables false
set_option linter.unusedSimpArgs false
set_option maxHeartbeats 0
set_option maxRecDepth 100000
theorem wdF_le (s : ByteArray) : (wdF s).size ≤ s.size := by
 show (sld (wd1 (clp s))).size ≤ _
 rw [seal_eq]
 refine Nat.le_trans ?_ (clp_sz s)
 generalize clp s = s
 have := sk_le s
 unfold wd1
 split
 ·rw [ByteArray.size_extract]; omega
 ·exact this
theorem rsF_le (s : ByteArray) : (rsF s).size ≤ s.size := by
 show (sld (rs1 (clp s))).size ≤ _
 rw [seal_eq]
 exact Nat.le_trans (rs1_le _) (clp_sz s)
theorem rst_le (r : ByteArray) : ∀ j, (rst r j).size ≤ r.size
 | 0 => Nat.le_refl _
 | j + 1 => Nat.le_trans (rsF_le _) (rst_le r j)
theorem wrd_le {w r : ByteArray} {N : Nat} (hw : w.size ≤ N) (hr : r.size ≤ N) : ∀ j, (wrd w r j).size ≤ N
 | 0 => hw
 | j + 1 => Nat.le_trans (wdF_le _) (Nat.le_trans (rst_le r j) hr)
theorem cut_len (s sep : List UInt8) : (Lib.cut s sep).1.length ≤ s.length ∧ (Lib.cut s sep).2.1.length ≤ s.length := by
 unfold Lib.cut
 split <;> simp <;> omega
theorem cuA_le (s sep : ByteArray) : (Ip.cuA s sep).size ≤ s.size := by
 unfold Ip.cuA
 rw [ba_size]
 have h : s.data.toList.length = s.size := by show _ = s.data.size; simp
 rw [← h]
 exact (cut_len _ _).1
theorem cuB_le (s sep : ByteArray) : (Ip.cuB s sep).size ≤ s.size := by
 unfold Ip.cuB
 rw [ba_size]
 have h : s.data.toList.length = s.size := by show _ = s.data.size; simp
 rw [← h]
 exact (cut_len _ _).2
theorem spl_le (s sep : ByteArray) (h : 1 ≤ sep.size) : (Ip.spl s sep).length ≤ s.size + 1 := by
 rw [Ip.spl_len s sep h]
 have := Lib.countB_le sep h s.size s (Nat.le_refl _)
 omega
end Go.Proofs.YtbdgncndhnnjoaaGreatDoor

namespace Go.Proofs.YtbdgncndhnnjoaaGreatDoor
open Go.RowKit YtbdgncndhnnjoaaGreatDoor
set_option linter.unusedVariables false
set_option linter.unusedSimpArgs false
set_option maxHeartbeats 0
set_option maxRecDepth 100000
variable {C : World → Prop}
structure Acl where
 protos : List Int
 src : List Sel
 dst : List Sel
 ports : List (Int × Int)
def aclEl (x : Acl) (c : List Value) (T : List Blk) : Prop := ∃ v1 v2 v3 v4 T1 T2 T3 T4, c = [v1, v2, v3, v4] ∧ T = T1 ++ (T2 ++ (T3 ++ T4)) ∧ u8D x.protos v1 T1 ∧ selLD x.src v2 T2 ∧ selLD x.dst v3 T3 ∧ prtD x.ports v4 T4
abbrev aclD (l : List Acl) : DP := RowD 4 57 aclEl l
def dApp_acl0 (l : List Acl) (b1 b2 k1 k2 k3 : Nat) (v : Value) (T0 : List Blk) (ps : List Int) (ss ds : List Sel) (hv : u8D ps v T0) (hle : l.length < 500000) (h1 : one1 (vV v) = true) : Dr S0 C := dApp 24 24 57 4 (.agg #[.slice none 0 0, .slice none 0 0, .slice none 0 0, .slice none 0 0]) aclEl l ⟨ps, ss, ds, []⟩ b1 b2 57 [vV v, vW k2, vW k3, vV (.slice none 0 0)] [(k1, tX T0), (k2, tD (selLD ss)), (k3, tD (selLD ds))] hle (fun E h => ⟨v, (E k2).v, (E k3).v, .slice none 0 0, T0, (E k2).T, (E k3).T, [], rfl, rfl, hv, h (k2, tD (selLD ss)) (by simp), h (k3, tD (selLD ds)) (by simp), row_nil _ _ _⟩) (hq := by
 show (true && (true && (one1 (vV v) && true))) = true
 rw [h1]
 rfl)
def dApp_acl1 (l : List Acl) (b1 b2 k1 k2 k3 k4 : Nat) (v : Value) (T0 : List Blk) (ps : List Int) (ss ds : List Sel) (rs : List (Int × Int)) (hv : u8D ps v T0) (hle : l.length < 500000) (h1 : one1 (vV v) = true) : Dr S0 C := dApp 24 24 57 4 (.agg #[.slice none 0 0, .slice none 0 0, .slice none 0 0, .slice none 0 0]) aclEl l ⟨ps, ss, ds, rs⟩ b1 b2 57 [vV v, vW k2, vW k3, vW k4] [(k1, tX T0), (k2, tD (selLD ss)), (k3, tD (selLD ds)), (k4, tD (prtD rs))] hle (fun E h => ⟨v, (E k2).v, (E k3).v, (E k4).v, T0, (E k2).T, (E k3).T, (E k4).T, rfl, by
 show T0 ++ ((E k2).T ++ ((E k3).T ++ ((E k4).T ++ []))) = _
 rw [List.append_nil], hv, h (k2, tD (selLD ss)) (by simp), h (k3, tD (selLD ds)) (by simp), h (k4, tD (prtD rs)) (by simp)⟩) (hq := by
 show (true && (true && (one1 (vV v) && true))) = true
 rw [h1]
 rfl)
def acO (A : List Acl) (M : List Men) (line at_ : Nat) (w r : ByteArray) : Out :=
 if A.length < 64 then
 if (wdF r).size = 0 then oP (fltI 190 line (at_ + 1)) else
 if prB (wdF r) = true then
 if wdF (rsF r) = ⟨#[102, 114, 111, 109]⟩ then
 outE line (at_ + 1 + 1 + 1) (lsE seC ⟨#[116, 111]⟩ (wrd (wdF (rsF (rsF r))) (rsF (rsF (rsF r)))) 65 0) fun j =>
 if wrd (wdF (rsF (rsF r))) (rsF (rsF (rsF r))) j = ⟨#[116, 111]⟩ then
 outE line (at_ + 1 + 1 + 1 + j + 1) (lsE seC ⟨#[112, 111, 114, 116, 115]⟩ (wrd (wdF (rst (rsF (rsF (rsF r))) j)) (rsF (rst (rsF (rsF (rsF r))) j))) 65 0) fun k =>
 if (wrd (wdF (rst (rsF (rsF (rsF r))) j)) (rsF (rst (rsF (rsF (rsF r))) j)) k).size = 0 then
 oR [gap, gap, rdX 0 1 2 7 8 line (at_ + 1 + 1 + 1 + j + 1 + k) (wrd (wdF (rst (rsF (rsF (rsF r))) j)) (rsF (rst (rsF (rsF (rsF r))) j)) k), rsI (rst (rsF (rst (rsF (rsF (rsF r))) j)) k)] [tD (aclD (A ++ [⟨prF (wdF r), sels (wdF (rsF (rsF r))) (rsF (rsF (rsF r))) j, sels (wdF (rst (rsF (rsF (rsF r))) j)) (rsF (rst (rsF (rsF (rsF r))) j)) k, []⟩])), tD (menD (mens (mens M line (at_ + 1 + 1 + 1) (wdF (rsF (rsF r))) (rsF (rsF (rsF r))) j) line (at_ + 1 + 1 + 1 + j + 1) (wdF (rst (rsF (rsF (rsF r))) j)) (rsF (rst (rsF (rsF (rsF r))) j)) k))] (vT [])
 else if wrd (wdF (rst (rsF (rsF (rsF r))) j)) (rsF (rst (rsF (rsF (rsF r))) j)) k = ⟨#[112, 111, 114, 116, 115]⟩ then
 outE line (at_ + 1 + 1 + 1 + j + 1 + k + 1) (lsE poC ⟨#[]⟩ (wrd (wdF (rst (rsF (rst (rsF (rsF (rsF r))) j)) k)) (rsF (rst (rsF (rst (rsF (rsF (rsF r))) j)) k))) 65 0) fun m =>
 oR [gap, gap, rdX 0 1 2 7 8 line (at_ + 1 + 1 + 1 + j + 1 + k + 1 + m) (wrd (wdF (rst (rsF (rst (rsF (rsF (rsF r))) j)) k)) (rsF (rst (rsF (rst (rsF (rsF (rsF r))) j)) k)) m), rsI (rst (rsF (rst (rsF (rst (rsF (rsF (rsF r))) j)) k)) m)] [tD (aclD (A ++ [⟨prF (wdF r), sels (wdF (rsF (rsF r))) (rsF (rsF (rsF r))) j, sels (wdF (rst (rsF (rsF (rsF r))) j)) (rsF (rst (rsF (rsF (rsF r))) j)) k, prts (wdF (rst (rsF (rst (rsF (rsF (rsF r))) j)) k)) (rsF (rst (rsF (rst (rsF (rsF (rsF r))) j)) k)) m⟩])), tD (menD (mens (mens M line (at_ + 1 + 1 + 1) (wdF (rsF (rsF r))) (rsF (rsF (rsF r))) j) line (at_ + 1 + 1 + 1 + j + 1) (wdF (rst (rsF (rsF (rsF r))) j)) (rsF (rst (rsF (rsF (rsF r))) j)) k))] (vT [])
 else oP (fltI 190 line (at_ + 1 + 1 + 1 + j + 1 + k))
 else oP (fltI 190 line (at_ + 1 + 1 + 1 + j))
 else oP (fltI 190 line (at_ + 1 + 1))
 else oP (fltI 194 line (at_ + 1))
 else oP (fltI 198 line at_)
theorem lsE_le {chk : ByteArray → Int} {fin : ByteArray} {u : Nat → ByteArray} : ∀ {f j k : Nat}, lsE chk fin u f j = .ok k → k ≤ j + f
 | 0, j, k, h => by cases h
 | f + 1, j, k, h => by
  unfold lsE at h
  split at h
  ·cases h; omega
  ·split at h
   ·cases h
   ·split at h
    ·cases h
    ·split at h
     ·have := lsE_le h; omega
     ·cases h
theorem c_accept (g t h : DP) (A : List Acl) (M : List Men) (line at_ : Nat) (w r : ByteArray) (ha : at_ < 10000) (hA : A.length < 100000) (hM : M.length < 300000) (hr : r.size ≤ 100000) : Cu S0 C 100 [vP 5 0] [tD g, tD t, tD h] [tD (aclD A), tD (menD M), rdI line at_ w, rsI r] (acO A M line at_ w r) := by
 have hw1 : (wdF r).size ≤ 100000 := Nat.le_trans (wdF_le _) hr
 have hc : (coms (wdF r)).length < 400000 := by have := spl_le (wdF r) ⟨#[44]⟩ (by decide); unfold coms; omega
 have hW : ∀ w r' : ByteArray, w.size ≤ 100000 → r'.size ≤ 100000 → ∀ j, (wrd w r' j).size ≤ 100000 := fun w r' a b j => wrd_le a b j
 have hd : ∀ r' : ByteArray, r'.size ≤ 100000 → (wdF r').size ≤ 100000 := fun r' a => Nat.le_trans (wdF_le _) a
 have hf : ∀ r' : ByteArray, r'.size ≤ 100000 → (rsF r').size ≤ 100000 := fun r' a => Nat.le_trans (rsF_le _) a
 have hs : ∀ r' : ByteArray, r'.size ≤ 100000 → ∀ j, (rst r' j).size ≤ 100000 := fun r' a j => Nat.le_trans (rst_le _ _) a
 have hB : ∀ w : ByteArray, w.size ≤ 100000 → (colB w).size ≤ 200000 := fun w a => Nat.le_trans (cuB_le _ _) (Nat.le_trans a (by decide))
 have hA2 : ∀ w s : ByteArray, w.size ≤ 100000 → (Ip.cuA w s).size ≤ 100000 := fun w s a => Nat.le_trans (cuA_le _ _) a
 have hB2 : ∀ w s : ByteArray, w.size ≤ 100000 → (Ip.cuB w s).size ≤ 100000 := fun w s a => Nat.le_trans (cuB_le _ _) a
 have hr3 : (rsF (rsF (rsF r))).size ≤ 100000 := hf _ (hf _ (hf _ hr))
 refine xInU Tryz.f100 fun E0 w0 hL hC hk => ?_
 by_cases q1 : A.length < 64
 ·by_cases q2 : (wdF r).size = 0
  ·refine xR 33 [(6, dLenR 24 3 3 4 57 aclEl A A.length rfl), (7, dC ((c_room g t h (aclD A) (menD M) line at_ w r A.length).ret ((if_pos q1))) [0, 1, 2, 3, 4, 5, 6]), (9, dC (c_next g t h (aclD A) (menD M) line at_ w r (by omega)) [0, 1, 2, 3, 4, 5, 6]), (14, dC (c_protosOf (wdF r) hw1 hc) [])] ?_
   exact xUp ((if_pos q1).trans ((if_pos q2))) (xPc ((c_needW g t h (aclD A) (menD M) line (at_ + 1) (wdF r) (rsF r) 194 (prB (wdF r))).pan ((if_pos q2))) [0, 1, 2, 3, 4, 5, 6])
  ·by_cases q3 : prB (wdF r) = true
   ·refine xR 42 [(6, dLenR 24 3 3 4 57 aclEl A A.length rfl), (7, dC ((c_room g t h (aclD A) (menD M) line at_ w r A.length).ret (if_pos q1)) [0, 1, 2, 3, 4, 5, 6]), (9, dC (c_next g t h (aclD A) (menD M) line at_ w r (by omega)) [0, 1, 2, 3, 4, 5, 6]), (14, dC (c_protosOf (wdF r) hw1 hc) []), (22, dC ((c_needW g t h (aclD A) (menD M) line (at_ + 1) (wdF r) (rsF r) 194 (prB (wdF r))).ret ((if_neg q2).trans (if_pos q3))) [0, 1, 2, 3, 4, 5, 6]), (24, dC (c_next g t h (aclD A) (menD M) line (at_ + 1) (wdF r) (rsF r) (by omega)) [0, 1, 2, 3, 4, 5, 6])] ?_
    refine xOpen (D := u8D (prF (wdF r))) 7 fun v0 T0 hv => ?_
    obtain ⟨base, cap, rfl⟩ := RowD.len hv
    have hw3 := fun j => hW (wdF (rsF (rsF r))) (rsF (rsF (rsF r))) (hd _ (hf _ (hf _ hr))) hr3 j
    have hb3 := fun j => hB _ (hw3 j)
    by_cases h1 : wdF (rsF r) = { data := #[102, 114, 111, 109] }
    ·rcases h2 : lsE seC { data := #[116, 111] } (wrd (wdF (rsF (rsF r))) (rsF (rsF (rsF r)))) 65 0 with ⟨e2, p2⟩ | x2
     ·refine xR 15 [(5, dC ((c_pass g t h (aclD A) (menD M) line (at_ + 1 + 1) (wdF (rsF r)) (rsF (rsF r)) ({ data := #[102, 114, 111, 109] }) (by omega)).ret ((if_pos h1))) [0, 1, 2, 3, 4, 5, 6])] ?_
      exact xUp ((if_pos q1).trans ((if_neg q2).trans ((if_pos q3).trans ((if_pos h1).trans ((outE_err h2)))))) (xPc ((c_listLE g t h (aclD A) M line (at_ + 1 + 1 + 1) (wdF (rsF (rsF r))) (rsF (rsF (rsF r))) ({ data := #[116, 111] }) (by omega) (by omega) hw3 hb3).pan ((outE_err h2))) [0, 1, 2, 3, 4, 5, 6])
     ·have b2 := lsE_le h2
      have m2 := mens_len M line (at_ + 1 + 1 + 1) (wdF (rsF (rsF r))) (rsF (rsF (rsF r))) x2
      by_cases h3 : wrd (wdF (rsF (rsF r))) (rsF (rsF (rsF r))) x2 = { data := #[116, 111] }
      ·rcases h4 : lsE seC { data := #[112, 111, 114, 116, 115] } (wrd (wdF (rst (rsF (rsF (rsF r))) x2)) (rsF (rst (rsF (rsF (rsF r))) x2))) 65 0 with ⟨e4, p4⟩ | x4
       ·refine xR 29 [(5, dC ((c_pass g t h (aclD A) (menD M) line (at_ + 1 + 1) (wdF (rsF r)) (rsF (rsF r)) ({ data := #[102, 114, 111, 109] }) (by omega)).ret ((if_pos h1))) [0, 1, 2, 3, 4, 5, 6]), (9, dC ((c_listLE g t h (aclD A) M line (at_ + 1 + 1 + 1) (wdF (rsF (rsF r))) (rsF (rsF (rsF r))) ({ data := #[116, 111] }) (by omega) (by omega) hw3 hb3).ret ((outE_ok h2))) [0, 1, 2, 3, 4, 5, 6]), (13, dC ((c_pass g t h (aclD A) (menD (mens M line (at_ + 1 + 1 + 1) (wdF (rsF (rsF r))) (rsF (rsF (rsF r))) x2)) line (at_ + 1 + 1 + 1 + x2) (wrd (wdF (rsF (rsF r))) (rsF (rsF (rsF r))) x2) (rst (rsF (rsF (rsF r))) x2) ({ data := #[116, 111] }) (by omega)).ret ((if_pos h3))) [0, 1, 2, 3, 9, 5, 6])] ?_
        exact xUp ((if_pos q1).trans ((if_neg q2).trans ((if_pos q3).trans ((if_pos h1).trans ((outE_ok h2).trans ((if_pos h3).trans ((outE_err h4)))))))) (xPc ((c_listLE g t h (aclD A) (mens M line (at_ + 1 + 1 + 1) (wdF (rsF (rsF r))) (rsF (rsF (rsF r))) x2) line (at_ + 1 + 1 + 1 + x2 + 1) (wdF (rst (rsF (rsF (rsF r))) x2)) (rsF (rst (rsF (rsF (rsF r))) x2)) ({ data := #[112, 111, 114, 116, 115] }) (by omega) (by omega) (fun j => hW (wdF (rst (rsF (rsF (rsF r))) x2)) (rsF (rst (rsF (rsF (rsF r))) x2)) (hd _ (hs (rsF (rsF (rsF r))) hr3 x2)) (hf _ (hs (rsF (rsF (rsF r))) hr3 x2)) j) (fun j => hB _ (hW (wdF (rst (rsF (rsF (rsF r))) x2)) (rsF (rst (rsF (rsF (rsF r))) x2)) (hd _ (hs (rsF (rsF (rsF r))) hr3 x2)) (hf _ (hs (rsF (rsF (rsF r))) hr3 x2)) j))).pan ((outE_err h4))) [0, 1, 2, 3, 9, 5, 6])
       ·have b4 := lsE_le h4
        by_cases h5 : (wrd (wdF (rst (rsF (rsF (rsF r))) x2)) (rsF (rst (rsF (rsF (rsF r))) x2)) x4).size = 0
        ·refine xR 44 [(5, dC ((c_pass g t h (aclD A) (menD M) line (at_ + 1 + 1) (wdF (rsF r)) (rsF (rsF r)) ({ data := #[102, 114, 111, 109] }) (by omega)).ret ((if_pos h1))) [0, 1, 2, 3, 4, 5, 6]), (9, dC ((c_listLE g t h (aclD A) M line (at_ + 1 + 1 + 1) (wdF (rsF (rsF r))) (rsF (rsF (rsF r))) ({ data := #[116, 111] }) (by omega) (by omega) hw3 hb3).ret ((outE_ok h2))) [0, 1, 2, 3, 4, 5, 6]), (13, dC ((c_pass g t h (aclD A) (menD (mens M line (at_ + 1 + 1 + 1) (wdF (rsF (rsF r))) (rsF (rsF (rsF r))) x2)) line (at_ + 1 + 1 + 1 + x2) (wrd (wdF (rsF (rsF r))) (rsF (rsF (rsF r))) x2) (rst (rsF (rsF (rsF r))) x2) ({ data := #[116, 111] }) (by omega)).ret ((if_pos h3))) [0, 1, 2, 3, 9, 5, 6]), (17, dC ((c_listLE g t h (aclD A) (mens M line (at_ + 1 + 1 + 1) (wdF (rsF (rsF r))) (rsF (rsF (rsF r))) x2) line (at_ + 1 + 1 + 1 + x2 + 1) (wdF (rst (rsF (rsF (rsF r))) x2)) (rsF (rst (rsF (rsF (rsF r))) x2)) ({ data := #[112, 111, 114, 116, 115] }) (by omega) (by omega) (fun j => hW (wdF (rst (rsF (rsF (rsF r))) x2)) (rsF (rst (rsF (rsF (rsF r))) x2)) (hd _ (hs (rsF (rsF (rsF r))) hr3 x2)) (hf _ (hs (rsF (rsF (rsF r))) hr3 x2)) j) (fun j => hB _ (hW (wdF (rst (rsF (rsF (rsF r))) x2)) (rsF (rst (rsF (rsF (rsF r))) x2)) (hd _ (hs (rsF (rsF (rsF r))) hr3 x2)) (hf _ (hs (rsF (rsF (rsF r))) hr3 x2)) j))).ret ((outE_ok h4))) [0, 1, 2, 3, 9, 5, 6]), (24, dB (((sN0 (wrd (wdF (rst (rsF (rsF (rsF r))) x2)) (rsF (rst (rsF (rsF (rsF r))) x2)) x4))).trans (DNF h5)))] ?_
         refine xR 1 [(8, dApp_acl0 A 3 13 7 10 12 (.slice base (prF (wdF r)).length cap) T0 (prF (wdF r)) (sels (wdF (rsF (rsF r))) (rsF (rsF (rsF r))) x2) (sels (wdF (rst (rsF (rsF (rsF r))) x2)) (rsF (rst (rsF (rsF (rsF r))) x2)) x4) hv (by omega) rfl)] ?_
         exact (xUr ((if_pos q1).trans ((if_neg q2).trans ((if_pos q3).trans ((if_pos h1).trans ((outE_ok h2).trans ((if_pos h3).trans ((outE_ok h4).trans ((if_pos h5))))))))) (xRetC [14, 11]))
        ·by_cases h6 : wrd (wdF (rst (rsF (rsF (rsF r))) x2)) (rsF (rst (rsF (rsF (rsF r))) x2)) x4 = { data := #[112, 111, 114, 116, 115] }
         ·rcases h7 : lsE poC { data := #[] } (wrd (wdF (rst (rsF (rst (rsF (rsF (rsF r))) x2)) x4)) (rsF (rst (rsF (rst (rsF (rsF (rsF r))) x2)) x4))) 65 0 with ⟨e7, p7⟩ | x7
          ·refine xR 52 [(5, dC ((c_pass g t h (aclD A) (menD M) line (at_ + 1 + 1) (wdF (rsF r)) (rsF (rsF r)) ({ data := #[102, 114, 111, 109] }) (by omega)).ret ((if_pos h1))) [0, 1, 2, 3, 4, 5, 6]), (9, dC ((c_listLE g t h (aclD A) M line (at_ + 1 + 1 + 1) (wdF (rsF (rsF r))) (rsF (rsF (rsF r))) ({ data := #[116, 111] }) (by omega) (by omega) hw3 hb3).ret ((outE_ok h2))) [0, 1, 2, 3, 4, 5, 6]), (13, dC ((c_pass g t h (aclD A) (menD (mens M line (at_ + 1 + 1 + 1) (wdF (rsF (rsF r))) (rsF (rsF (rsF r))) x2)) line (at_ + 1 + 1 + 1 + x2) (wrd (wdF (rsF (rsF r))) (rsF (rsF (rsF r))) x2) (rst (rsF (rsF (rsF r))) x2) ({ data := #[116, 111] }) (by omega)).ret ((if_pos h3))) [0, 1, 2, 3, 9, 5, 6]), (17, dC ((c_listLE g t h (aclD A) (mens M line (at_ + 1 + 1 + 1) (wdF (rsF (rsF r))) (rsF (rsF (rsF r))) x2) line (at_ + 1 + 1 + 1 + x2 + 1) (wdF (rst (rsF (rsF (rsF r))) x2)) (rsF (rst (rsF (rsF (rsF r))) x2)) ({ data := #[112, 111, 114, 116, 115] }) (by omega) (by omega) (fun j => hW (wdF (rst (rsF (rsF (rsF r))) x2)) (rsF (rst (rsF (rsF (rsF r))) x2)) (hd _ (hs (rsF (rsF (rsF r))) hr3 x2)) (hf _ (hs (rsF (rsF (rsF r))) hr3 x2)) j) (fun j => hB _ (hW (wdF (rst (rsF (rsF (rsF r))) x2)) (rsF (rst (rsF (rsF (rsF r))) x2)) (hd _ (hs (rsF (rsF (rsF r))) hr3 x2)) (hf _ (hs (rsF (rsF (rsF r))) hr3 x2)) j))).ret ((outE_ok h4))) [0, 1, 2, 3, 9, 5, 6]), (24, dB (((sN0 (wrd (wdF (rst (rsF (rsF (rsF r))) x2)) (rsF (rst (rsF (rsF (rsF r))) x2)) x4))).trans (DNT h5))), (26, dC ((c_pass g t h (aclD A) (menD (mens (mens M line (at_ + 1 + 1 + 1) (wdF (rsF (rsF r))) (rsF (rsF (rsF r))) x2) line (at_ + 1 + 1 + 1 + x2 + 1) (wdF (rst (rsF (rsF (rsF r))) x2)) (rsF (rst (rsF (rsF (rsF r))) x2)) x4)) line (at_ + 1 + 1 + 1 + x2 + 1 + x4) (wrd (wdF (rst (rsF (rsF (rsF r))) x2)) (rsF (rst (rsF (rsF (rsF r))) x2)) x4) (rst (rsF (rst (rsF (rsF (rsF r))) x2)) x4) ({ data := #[112, 111, 114, 116, 115] }) (by omega)).ret ((if_pos h6))) [0, 1, 2, 3, 11, 5, 6])] ?_
           exact xUp ((if_pos q1).trans ((if_neg q2).trans ((if_pos q3).trans ((if_pos h1).trans ((outE_ok h2).trans ((if_pos h3).trans ((outE_ok h4).trans ((if_neg h5).trans ((if_pos h6).trans ((outE_err h7))))))))))) (xPc ((c_listPE g t h (aclD A) (menD (mens (mens M line (at_ + 1 + 1 + 1) (wdF (rsF (rsF r))) (rsF (rsF (rsF r))) x2) line (at_ + 1 + 1 + 1 + x2 + 1) (wdF (rst (rsF (rsF (rsF r))) x2)) (rsF (rst (rsF (rsF (rsF r))) x2)) x4)) line (at_ + 1 + 1 + 1 + x2 + 1 + x4 + 1) (wdF (rst (rsF (rst (rsF (rsF (rsF r))) x2)) x4)) (rsF (rst (rsF (rst (rsF (rsF (rsF r))) x2)) x4)) ({ data := #[] }) (by omega) (fun j => ⟨hW (wdF (rst (rsF (rst (rsF (rsF (rsF r))) x2)) x4)) (rsF (rst (rsF (rst (rsF (rsF (rsF r))) x2)) x4)) (hd _ (hs (rsF (rst (rsF (rsF (rsF r))) x2)) (hf _ (hs (rsF (rsF (rsF r))) hr3 x2)) x4)) (hf _ (hs (rsF (rst (rsF (rsF (rsF r))) x2)) (hf _ (hs (rsF (rsF (rsF r))) hr3 x2)) x4)) j, hA2 _ _ (hW (wdF (rst (rsF (rst (rsF (rsF (rsF r))) x2)) x4)) (rsF (rst (rsF (rst (rsF (rsF (rsF r))) x2)) x4)) (hd _ (hs (rsF (rst (rsF (rsF (rsF r))) x2)) (hf _ (hs (rsF (rsF (rsF r))) hr3 x2)) x4)) (hf _ (hs (rsF (rst (rsF (rsF (rsF r))) x2)) (hf _ (hs (rsF (rsF (rsF r))) hr3 x2)) x4)) j), hB2 _ _ (hW (wdF (rst (rsF (rst (rsF (rsF (rsF r))) x2)) x4)) (rsF (rst (rsF (rst (rsF (rsF (rsF r))) x2)) x4)) (hd _ (hs (rsF (rst (rsF (rsF (rsF r))) x2)) (hf _ (hs (rsF (rsF (rsF r))) hr3 x2)) x4)) (hf _ (hs (rsF (rst (rsF (rsF (rsF r))) x2)) (hf _ (hs (rsF (rsF (rsF r))) hr3 x2)) x4)) j)⟩)).pan ((outE_err h7))) [0, 1, 2, 3, 11, 5, 6])
          ·have b7 := lsE_le h7
           refine xR 56 [(5, dC ((c_pass g t h (aclD A) (menD M) line (at_ + 1 + 1) (wdF (rsF r)) (rsF (rsF r)) ({ data := #[102, 114, 111, 109] }) (by omega)).ret ((if_pos h1))) [0, 1, 2, 3, 4, 5, 6]), (9, dC ((c_listLE g t h (aclD A) M line (at_ + 1 + 1 + 1) (wdF (rsF (rsF r))) (rsF (rsF (rsF r))) ({ data := #[116, 111] }) (by omega) (by omega) hw3 hb3).ret ((outE_ok h2))) [0, 1, 2, 3, 4, 5, 6]), (13, dC ((c_pass g t h (aclD A) (menD (mens M line (at_ + 1 + 1 + 1) (wdF (rsF (rsF r))) (rsF (rsF (rsF r))) x2)) line (at_ + 1 + 1 + 1 + x2) (wrd (wdF (rsF (rsF r))) (rsF (rsF (rsF r))) x2) (rst (rsF (rsF (rsF r))) x2) ({ data := #[116, 111] }) (by omega)).ret ((if_pos h3))) [0, 1, 2, 3, 9, 5, 6]), (17, dC ((c_listLE g t h (aclD A) (mens M line (at_ + 1 + 1 + 1) (wdF (rsF (rsF r))) (rsF (rsF (rsF r))) x2) line (at_ + 1 + 1 + 1 + x2 + 1) (wdF (rst (rsF (rsF (rsF r))) x2)) (rsF (rst (rsF (rsF (rsF r))) x2)) ({ data := #[112, 111, 114, 116, 115] }) (by omega) (by omega) (fun j => hW (wdF (rst (rsF (rsF (rsF r))) x2)) (rsF (rst (rsF (rsF (rsF r))) x2)) (hd _ (hs (rsF (rsF (rsF r))) hr3 x2)) (hf _ (hs (rsF (rsF (rsF r))) hr3 x2)) j) (fun j => hB _ (hW (wdF (rst (rsF (rsF (rsF r))) x2)) (rsF (rst (rsF (rsF (rsF r))) x2)) (hd _ (hs (rsF (rsF (rsF r))) hr3 x2)) (hf _ (hs (rsF (rsF (rsF r))) hr3 x2)) j))).ret ((outE_ok h4))) [0, 1, 2, 3, 9, 5, 6]), (24, dB (((sN0 (wrd (wdF (rst (rsF (rsF (rsF r))) x2)) (rsF (rst (rsF (rsF (rsF r))) x2)) x4))).trans (DNT h5))), (26, dC ((c_pass g t h (aclD A) (menD (mens (mens M line (at_ + 1 + 1 + 1) (wdF (rsF (rsF r))) (rsF (rsF (rsF r))) x2) line (at_ + 1 + 1 + 1 + x2 + 1) (wdF (rst (rsF (rsF (rsF r))) x2)) (rsF (rst (rsF (rsF (rsF r))) x2)) x4)) line (at_ + 1 + 1 + 1 + x2 + 1 + x4) (wrd (wdF (rst (rsF (rsF (rsF r))) x2)) (rsF (rst (rsF (rsF (rsF r))) x2)) x4) (rst (rsF (rst (rsF (rsF (rsF r))) x2)) x4) ({ data := #[112, 111, 114, 116, 115] }) (by omega)).ret ((if_pos h6))) [0, 1, 2, 3, 11, 5, 6]), (30, dC ((c_listPE g t h (aclD A) (menD (mens (mens M line (at_ + 1 + 1 + 1) (wdF (rsF (rsF r))) (rsF (rsF (rsF r))) x2) line (at_ + 1 + 1 + 1 + x2 + 1) (wdF (rst (rsF (rsF (rsF r))) x2)) (rsF (rst (rsF (rsF (rsF r))) x2)) x4)) line (at_ + 1 + 1 + 1 + x2 + 1 + x4 + 1) (wdF (rst (rsF (rst (rsF (rsF (rsF r))) x2)) x4)) (rsF (rst (rsF (rst (rsF (rsF (rsF r))) x2)) x4)) ({ data := #[] }) (by omega) (fun j => ⟨hW (wdF (rst (rsF (rst (rsF (rsF (rsF r))) x2)) x4)) (rsF (rst (rsF (rst (rsF (rsF (rsF r))) x2)) x4)) (hd _ (hs (rsF (rst (rsF (rsF (rsF r))) x2)) (hf _ (hs (rsF (rsF (rsF r))) hr3 x2)) x4)) (hf _ (hs (rsF (rst (rsF (rsF (rsF r))) x2)) (hf _ (hs (rsF (rsF (rsF r))) hr3 x2)) x4)) j, hA2 _ _ (hW (wdF (rst (rsF (rst (rsF (rsF (rsF r))) x2)) x4)) (rsF (rst (rsF (rst (rsF (rsF (rsF r))) x2)) x4)) (hd _ (hs (rsF (rst (rsF (rsF (rsF r))) x2)) (hf _ (hs (rsF (rsF (rsF r))) hr3 x2)) x4)) (hf _ (hs (rsF (rst (rsF (rsF (rsF r))) x2)) (hf _ (hs (rsF (rsF (rsF r))) hr3 x2)) x4)) j), hB2 _ _ (hW (wdF (rst (rsF (rst (rsF (rsF (rsF r))) x2)) x4)) (rsF (rst (rsF (rst (rsF (rsF (rsF r))) x2)) x4)) (hd _ (hs (rsF (rst (rsF (rsF (rsF r))) x2)) (hf _ (hs (rsF (rsF (rsF r))) hr3 x2)) x4)) (hf _ (hs (rsF (rst (rsF (rsF (rsF r))) x2)) (hf _ (hs (rsF (rsF (rsF r))) hr3 x2)) x4)) j)⟩)).ret ((outE_ok h7))) [0, 1, 2, 3, 11, 5, 6])] ?_
           refine xR 1 [(8, dApp_acl1 A 3 14 7 10 12 13 (.slice base (prF (wdF r)).length cap) T0 (prF (wdF r)) (sels (wdF (rsF (rsF r))) (rsF (rsF (rsF r))) x2) (sels (wdF (rst (rsF (rsF (rsF r))) x2)) (rsF (rst (rsF (rsF (rsF r))) x2)) x4) (prts (wdF (rst (rsF (rst (rsF (rsF (rsF r))) x2)) x4)) (rsF (rst (rsF (rst (rsF (rsF (rsF r))) x2)) x4)) x7) hv (by omega) rfl)] ?_
           exact (xUr ((if_pos q1).trans ((if_neg q2).trans ((if_pos q3).trans ((if_pos h1).trans ((outE_ok h2).trans ((if_pos h3).trans ((outE_ok h4).trans ((if_neg h5).trans ((if_pos h6).trans ((outE_ok h7))))))))))) (xRetC [15, 11]))
         ·refine xR 46 [(5, dC ((c_pass g t h (aclD A) (menD M) line (at_ + 1 + 1) (wdF (rsF r)) (rsF (rsF r)) ({ data := #[102, 114, 111, 109] }) (by omega)).ret ((if_pos h1))) [0, 1, 2, 3, 4, 5, 6]), (9, dC ((c_listLE g t h (aclD A) M line (at_ + 1 + 1 + 1) (wdF (rsF (rsF r))) (rsF (rsF (rsF r))) ({ data := #[116, 111] }) (by omega) (by omega) hw3 hb3).ret ((outE_ok h2))) [0, 1, 2, 3, 4, 5, 6]), (13, dC ((c_pass g t h (aclD A) (menD (mens M line (at_ + 1 + 1 + 1) (wdF (rsF (rsF r))) (rsF (rsF (rsF r))) x2)) line (at_ + 1 + 1 + 1 + x2) (wrd (wdF (rsF (rsF r))) (rsF (rsF (rsF r))) x2) (rst (rsF (rsF (rsF r))) x2) ({ data := #[116, 111] }) (by omega)).ret ((if_pos h3))) [0, 1, 2, 3, 9, 5, 6]), (17, dC ((c_listLE g t h (aclD A) (mens M line (at_ + 1 + 1 + 1) (wdF (rsF (rsF r))) (rsF (rsF (rsF r))) x2) line (at_ + 1 + 1 + 1 + x2 + 1) (wdF (rst (rsF (rsF (rsF r))) x2)) (rsF (rst (rsF (rsF (rsF r))) x2)) ({ data := #[112, 111, 114, 116, 115] }) (by omega) (by omega) (fun j => hW (wdF (rst (rsF (rsF (rsF r))) x2)) (rsF (rst (rsF (rsF (rsF r))) x2)) (hd _ (hs (rsF (rsF (rsF r))) hr3 x2)) (hf _ (hs (rsF (rsF (rsF r))) hr3 x2)) j) (fun j => hB _ (hW (wdF (rst (rsF (rsF (rsF r))) x2)) (rsF (rst (rsF (rsF (rsF r))) x2)) (hd _ (hs (rsF (rsF (rsF r))) hr3 x2)) (hf _ (hs (rsF (rsF (rsF r))) hr3 x2)) j))).ret ((outE_ok h4))) [0, 1, 2, 3, 9, 5, 6]), (24, dB (((sN0 (wrd (wdF (rst (rsF (rsF (rsF r))) x2)) (rsF (rst (rsF (rsF (rsF r))) x2)) x4))).trans (DNT h5)))] ?_
          exact xUp ((if_pos q1).trans ((if_neg q2).trans ((if_pos q3).trans ((if_pos h1).trans ((outE_ok h2).trans ((if_pos h3).trans ((outE_ok h4).trans ((if_neg h5).trans ((if_neg h6)))))))))) (xPc ((c_pass g t h (aclD A) (menD (mens (mens M line (at_ + 1 + 1 + 1) (wdF (rsF (rsF r))) (rsF (rsF (rsF r))) x2) line (at_ + 1 + 1 + 1 + x2 + 1) (wdF (rst (rsF (rsF (rsF r))) x2)) (rsF (rst (rsF (rsF (rsF r))) x2)) x4)) line (at_ + 1 + 1 + 1 + x2 + 1 + x4) (wrd (wdF (rst (rsF (rsF (rsF r))) x2)) (rsF (rst (rsF (rsF (rsF r))) x2)) x4) (rst (rsF (rst (rsF (rsF (rsF r))) x2)) x4) ({ data := #[112, 111, 114, 116, 115] }) (by omega)).pan ((if_neg h6))) [0, 1, 2, 3, 11, 5, 6])
      ·refine xR 22 [(5, dC ((c_pass g t h (aclD A) (menD M) line (at_ + 1 + 1) (wdF (rsF r)) (rsF (rsF r)) ({ data := #[102, 114, 111, 109] }) (by omega)).ret ((if_pos h1))) [0, 1, 2, 3, 4, 5, 6]), (9, dC ((c_listLE g t h (aclD A) M line (at_ + 1 + 1 + 1) (wdF (rsF (rsF r))) (rsF (rsF (rsF r))) ({ data := #[116, 111] }) (by omega) (by omega) hw3 hb3).ret ((outE_ok h2))) [0, 1, 2, 3, 4, 5, 6])] ?_
       exact xUp ((if_pos q1).trans ((if_neg q2).trans ((if_pos q3).trans ((if_pos h1).trans ((outE_ok h2).trans ((if_neg h3))))))) (xPc ((c_pass g t h (aclD A) (menD (mens M line (at_ + 1 + 1 + 1) (wdF (rsF (rsF r))) (rsF (rsF (rsF r))) x2)) line (at_ + 1 + 1 + 1 + x2) (wrd (wdF (rsF (rsF r))) (rsF (rsF (rsF r))) x2) (rst (rsF (rsF (rsF r))) x2) ({ data := #[116, 111] }) (by omega)).pan ((if_neg h3))) [0, 1, 2, 3, 9, 5, 6])
    ·refine xR 8 [] ?_
     exact xUp ((if_pos q1).trans ((if_neg q2).trans ((if_pos q3).trans ((if_neg h1))))) (xPc ((c_pass g t h (aclD A) (menD M) line (at_ + 1 + 1) (wdF (rsF r)) (rsF (rsF r)) ({ data := #[102, 114, 111, 109] }) (by omega)).pan ((if_neg h1))) [0, 1, 2, 3, 4, 5, 6])
   ·refine xR 33 [(6, dLenR 24 3 3 4 57 aclEl A A.length rfl), (7, dC ((c_room g t h (aclD A) (menD M) line at_ w r A.length).ret ((if_pos q1))) [0, 1, 2, 3, 4, 5, 6]), (9, dC (c_next g t h (aclD A) (menD M) line at_ w r (by omega)) [0, 1, 2, 3, 4, 5, 6]), (14, dC (c_protosOf (wdF r) hw1 hc) [])] ?_
    exact xUp ((if_pos q1).trans ((if_neg q2).trans ((if_neg q3)))) (xPc ((c_needW g t h (aclD A) (menD M) line (at_ + 1) (wdF r) (rsF r) 194 (prB (wdF r))).pan ((if_neg q2).trans ((if_neg q3)))) [0, 1, 2, 3, 4, 5, 6])
 ·refine xR 9 [(6, dLenR 24 3 3 4 57 aclEl A A.length rfl)] ?_
  exact xUp ((if_neg q1)) (xPc ((c_room g t h (aclD A) (menD M) line at_ w r A.length).pan ((if_neg q1))) [0, 1, 2, 3, 4, 5, 6])
end Go.Proofs.YtbdgncndhnnjoaaGreatDoor

namespace Go.Proofs.YtbdgncndhnnjoaaGreatDoor
open Go.RowKit YtbdgncndhnnjoaaGreatDoor
set_option linter.unusedVariables false
set_option linter.unusedSimpArgs false
set_option maxHeartbeats 0
set_option maxRecDepth 100000
variable {C : World → Prop}
def men0 : Men := ⟨⟨0, ⟨#[]⟩, net0⟩, 0, 0, 0⟩
def menF (M : List Men) (i : Nat) : Nat → Value
 | 0 => .int .u8 (M.getD i men0).sel.kind
 | 1 => .string (M.getD i men0).sel.name
 | 2 => .bool (M.getD i men0).sel.net.v6
 | 3 => .int .u64 (M.getD i men0).sel.net.hi
 | 4 => .int .u64 (M.getD i men0).sel.net.lo
 | 5 => .int .u8 (M.getD i men0).sel.net.bits
 | 6 => .int .i64 (M.getD i men0).e
 | 7 => .int .i64 (M.getD i men0).line
 | _ => .int .i64 (M.getD i men0).at_
theorem rowM {M : List Men} {v : Value} {T : List Blk} (h : menD M v T) : Sl T 9 M.length (menF M) v := by
 obtain ⟨F, h1, h2⟩ := h.sl
 refine h1.congr fun i j hi hj => ?_
 have hg : M[i]? = some M[i] := List.getElem?_eq_getElem hi
 obtain ⟨cs, Te, ⟨rfl, -⟩, -, h3, -⟩ := h2 i _ hg
 have e : M.getD i men0 = M[i] := by rw [List.getD_eq_getElem?_getD, hg]; rfl
 match j, hj with
 | 0, _ | 1, _ | 2, _ | 3, _ | 4, _ | 5, _ | 6, _ | 7, _ | 8, _ =>
  simp only [menF, e]
  exact h3 _ _ rfl
def mtl (G T : List Nam) (H : List Hst) (m : Men) : Bool := tellL G T H m.sel.kind m.sel.name
def unkO (G T : List Nam) (H : List Hst) (M : List Men) : Out := match M.find? (fun m => !mtl G T H m) with
 | none => oR [] [] (vT [])
 | some m => oP (vI 109 (vG [vV (.int .i64 m.e), vV (.int .i64 m.line), vV (.int .i64 m.at_)]))
theorem unk_none {G T : List Nam} {H : List Hst} {M : List Men} {x : Nat} (hx : ¬ x < M.length) (h : ∀ i, i < x → mtl G T H (M.getD i men0) = true) : unkO G T H M = oR [] [] (vT []) := by
 unfold unkO
 have : M.find? (fun m => !mtl G T H m) = none := List.find?_eq_none.2 fun m hm => by
  obtain ⟨i, hi, rfl⟩ := List.getElem_of_mem hm
  have := h i (by omega)
  rw [List.getD_eq_getElem?_getD, List.getElem?_eq_getElem hi] at this
  simpa using this
 rw [this]
theorem unk_hit {G T : List Nam} {H : List Hst} {M : List Men} {x : Nat} (hx : x < M.length) (h : ∀ i, i < x → mtl G T H (M.getD i men0) = true) (hf : mtl G T H (M.getD x men0) = false) : unkO G T H M = oP (vI 109 (vG [vV (.int .i64 (M.getD x men0).e), vV (.int .i64 (M.getD x men0).line), vV (.int .i64 (M.getD x men0).at_)])) := by
 unfold unkO
 have e : M.getD x men0 = M[x] := by rw [List.getD_eq_getElem?_getD, List.getElem?_eq_getElem hx]; rfl
 have : M.find? (fun m => !mtl G T H m) = some (M.getD x men0) := by
  rw [e, List.find?_eq_some_iff_getElem]
  refine ⟨by rw [← e, hf]; rfl, x, hx, rfl, fun j hj => ?_⟩
  have := h j hj
  rw [List.getD_eq_getElem?_getD, List.getElem?_eq_getElem (by omega)] at this
  simpa using this
 rw [this]
end Go.Proofs.YtbdgncndhnnjoaaGreatDoor

namespace Go.Proofs.YtbdgncndhnnjoaaGreatDoor
open Go.RowKit YtbdgncndhnnjoaaGreatDoor
set_option linter.unusedVariables false
set_option linter.unusedSimpArgs false
set_option maxHeartbeats 0
set_option maxRecDepth 100000
variable {C : World → Prop}
def rdB (line at_ : Nat) (word : ByteArray) : It := tC [vW 0, vW 1, vW 2, vW 3, vV (.int .i64 (line : Int)), vV (.int .i64 (at_ : Int)), vV (.string word), vW 6, vW 4] 70
theorem c_wordsOf (l : ByteArray) (hl : l.size ≤ 100000) : Ct S0 C 102 [vV (.string l)] [] [] [] [rsI l] (vF (.func 136) [] [vP 0 0]) := by
 refine xIn Tryz.f102 fun E0 w0 hL hC hk => ?_
 refine xR 10 [] ?_
 refine xIt 0 (x := tC [vV (.string l)] 9) (y := rsI l) (by unfold rsI; rw [clp_eq hl]) ?_
 exact (xRetC [0])
end Go.Proofs.YtbdgncndhnnjoaaGreatDoor

namespace Go.Proofs.YtbdgncndhnnjoaaGreatDoor
open Go.RowKit YtbdgncndhnnjoaaGreatDoor
set_option linter.unusedVariables false
set_option linter.unusedSimpArgs false
set_option maxHeartbeats 0
set_option maxRecDepth 100000
variable {C : World → Prop}
def rdN (line at_ : Nat) (word : ByteArray) : It := tC [vW 0, vW 1, vW 2, vW 3, vV (.int .i64 (line : Int)), vV (.int .i64 (at_ : Int)), vV (.string word), vF (.func 136) [] [vP 7 0], vW 4] 70
theorem c_begin (g t h a n k : DP) (line at_ : Nat) (word l : ByteArray) (hl : l.size ≤ 100000) : Ct S0 C 63 [vP 5 0, vV (.string l)] [tD g, tD t, tD h, tD a, tD n] [rdB line at_ word, tD k] [rdN line 0 (wdF l), tD k] [rsI (rsF l)] (vT []) := by
 refine xIn Tryz.f63 fun E0 w0 hL hC hk => ?_
 refine xR 24 [(2, dC (c_wordsOf l hl) []), (12, dC (c_take l) [7])] ?_
 exact (xRetC [7])
end Go.Proofs.YtbdgncndhnnjoaaGreatDoor

namespace Go.Proofs.YtbdgncndhnnjoaaGreatDoor
open Go.RowKit YtbdgncndhnnjoaaGreatDoor
set_option linter.unusedVariables false
set_option linter.unusedSimpArgs false
set_option maxHeartbeats 0
set_option maxRecDepth 100000
variable {C : World → Prop}
theorem xPackF {P : Program} {S : Seat P} {c : Ctx} {E0 : Nat → Ent} {n : Nat} {B : Exit → Act → World → Prop} {K : List Fr} {s : St} (sv : SV) (l : List Nat) (D : Value → List Blk → Prop) (ts : List Nat) (cs : List (Nat × Nat))
  (hD : ∀ E : Nat → Ent, okP E (lk s.m l) → (sv.den E).oneCell' = true ∧ D (sv.den E) (denP E (lk s.m l)))
  (hdc : ∀ E, sv.denC E = sv.den E) (k : OK S c E0 n B K (packS s l D ts cs))
  (hA : (inM s.m l && sv.al (isLt s.m.length)) = true := by kernel_rfl)
  (hT : pickT ts 0 s.t = (pickT ts 0 s.t).map fun _ => sv := by kernel_rfl)
  (hC : pickC s.m.length cs (gapM s.m l) = (pickC s.m.length cs (gapM s.m l)).map fun _ => sv := by kernel_rfl) : OK S c E0 n B K s := by
 simp only [Bool.and_eq_true] at hA
 obtain ⟨hin, hal⟩ := hA
 have cst : ∀ {L : List SV}, L = L.map (fun _ => sv) → ∀ x ∈ L, x = sv := fun h x hx => by
  rw [h] at hx
  obtain ⟨_, _, rfl⟩ := List.mem_map.1 hx
  rfl
 refine ⟨fun E a w hn hE H => ?_⟩
 have hok : okP E (lk s.m l) := by
  intro p hp
  obtain ⟨i, hi2, rfl⟩ := List.mem_map.1 hp
  simp only [inM, Bool.and_eq_true, List.all_eq_true] at hin
  have hil : i < s.m.length := by simpa [isLt, Nat.blt_eq] using hin.1 i hi2
  simp only [List.getElem?_eq_getElem hil, Option.getD_some]
  exact H.ok i _ (List.getElem?_eq_getElem hil)
 obtain ⟨h1, h2⟩ := hD E hok
 let E' : Nat → Ent := fun i => bif Nat.beq i s.m.length then ⟨0, sv.den E, denP E (lk s.m l), h1⟩ else E i
 have hE' : ∀ i, i < s.m.length → E' i = E i := fun i hi => by
  have : Nat.beq i s.m.length = false := by
   cases e : Nat.beq i s.m.length with
   | false => rfl
   | true => exact absurd (nbeq.1 e) (by omega)
  simp only [E', this, cond_false]
 have hb : E' s.m.length = ⟨0, sv.den E, denP E (lk s.m l), h1⟩ := by
  have : Nat.beq s.m.length s.m.length = true := nbeq.2 rfl
  simp only [E', this, cond_true]
 have hden : sv.den E' = sv.den E := sv.den_congr (p := isLt s.m.length) (fun i hi => hE' i (by simpa [isLt, Nat.blt_eq] using hi)) hal
 have hv : (E' s.m.length).v = sv.den E' := by rw [hb, hden]
 have hvC : (E' s.m.length).v = sv.denC E' := by rw [hv, hdc]
 have hlen : (setCs s.m.length cs (gapM s.m l)).length = s.m.length := by rw [setCs_len, gapM_len]
 refine k.out E' a w ?_ (fun i hi => by rw [hE' i (by omega), hE i hi]) ⟨?_, H.df, ?_, ?_, ?_, ?_⟩
 ·simp only [packS, List.length_append, hlen]
  omega
 ·rw [H.tm, ← tv_congr hE' H.wt]
  unfold tv packS
  rw [setT_den hv ts s.t 0 (cst hT)]
 ·have hg : (gapM s.m l).all (It.al (isLt s.m.length)) = true := all_gapM rfl l H.wm
  simp only [packS]
  rw [dens_app, setCs_dens hvC cs _ (cst hC), hlen]
  rw [dens_congr (E := E') (E' := E) (p := isLt s.m.length) (fun i hi => hE' i (by simpa [isLt, Nat.blt_eq] using hi)) (gapM s.m l) 0 (fun i _ hi => hE' i (by rw [gapM_len] at hi; omega)) hg]
  have : dens E' (0 + s.m.length) [tD D] = denP E (lk s.m l) := by
   simp only [dens, List.append_nil, Nat.zero_add]
   show (E' s.m.length).T = _
   rw [hb]
  rw [this]
  exact H.mem.perm ((dens_part E _ _ hin).trans List.perm_append_comm)
 ·intro i x hx
  simp only [packS] at hx
  by_cases hi : i < s.m.length
  ·rw [List.getElem?_append_left (by rw [hlen]; exact hi)] at hx
   have := setCs_oks (b := s.m.length) cs (oks_gapM l H.ok) i x hx
   rwa [x.ok_congr (hE' i hi)]
  ·rw [List.getElem?_append_right (by rw [hlen]; omega), hlen] at hx
   have : i = s.m.length := by
    cases e : i - s.m.length with
    | zero => omega
    | succ k => rw [e] at hx; simp at hx
   subst this
   simp only [Nat.sub_self, List.getElem?_cons_zero, Option.some.injEq] at hx
   subst hx
   show D (E' s.m.length).v (E' s.m.length).T
   rw [hb]
   exact h2
 ·simp only [packS, List.length_append, hlen]
  exact setT_al (by simp [isLt, Nat.blt_eq]) ts s.t 0 (all_imp (SV.al_imp (lt_imp (by omega))) H.wt)
 ·simp only [packS, List.length_append, hlen, List.all_append, Bool.and_eq_true]
  exact ⟨setCs_al (by simp [isLt, Nat.blt_eq]) cs (all_gapM rfl l (all_imp (It.al_imp (lt_imp (by omega))) H.wm)), by rfl⟩
theorem xSlK {P : Program} {S : Seat P} {c : Ctx} {E0 : Nat → Ent} {n : Nat} {B : Exit → Act → World → Prop} {K : List Fr} {s : St} (k : Nat) (u0 u : SV) (h : ∀ E : Nat → Ent, (∀ i, i < n → E i = E0 i) → u0.den E = u.den E)
  (kk : OK S c E0 n B K ⟨s.t.set k u, s.m⟩) (hk : s.t[k]? = some u0 := by kernel_rfl) (hA : u.al (isLt s.m.length) = true := by kernel_rfl) : OK S c E0 n B K s :=
 xSl k u (fun E hE => by rw [hk]; exact h E hE) kk hA
theorem ba_beq (x y : ByteArray) : (x == y) = decide (x = y) := by
 obtain ⟨a⟩ := x
 obtain ⟨b⟩ := y
 rw [Bool.eq_iff_iff]
 have : ((ByteArray.mk a == ByteArray.mk b) = true) ↔ (a == b) = true := Iff.rfl
 rw [this]
 simp
theorem kmS : KM Tryz.prog 9 (fun s : ByteArray => Value.string s) := by
 refine ⟨fun em w x => by kernel_rfl, fun w x ms => ?_⟩
 have now : ∀ (ms : List (ByteArray × Value × Nat)) (i : Nat), Instr.findNow .string (.string x) (ents (fun s : ByteArray => Value.string s) ms) i = some (fndM x ms i) := by
  intro ms
  induction ms with
  | nil => intro i; rfl
  | cons e l ih =>
   intro i
   show Instr.findNow .string (.string x) (⟨.string e.1, e.2.1, e.2.2⟩ :: ents (fun s : ByteArray => Value.string s) l) i = _
   unfold Instr.findNow fndM
   by_cases h : x = e.1
   ·rw [if_pos h]
    have : Instr.sameNow .string (.string x) (.string e.1) = some true := by
     show some (x == e.1) = some true
     rw [ba_beq, decide_eq_true h]
    rw [this]
   ·rw [if_neg h]
    have : Instr.sameNow .string (.string x) (.string e.1) = some false := by
     show some (x == e.1) = some false
     rw [ba_beq, decide_eq_false h]
    rw [this]
    exact ih (i + 1)
 unfold Instr.findKey
 simp only [Sem.run_bind, run_underlying (show Tryz.prog.underlying 9 = some .string from rfl), Result.andThen_ok, now, Sem.run_pure]
section
variable {P : Program} {S : Seat P} {C : World → Prop} {α : Type} [DecidableEq α] {enc : α → Value}
def dMuF (t kt et : TypeId) (K : KM P kt enc) (b : Nat) (A B : List Blk) (gm : Nat) (ms : List (α × Value × Nat)) (clock : Nat) (x : α) (ks u : SV) (v : Value) (huv : ∀ E, u.den E = v) (hks : ∀ E, ks.den E = enc x) (h : lkM x ms = none) (hu : P.underlying t = some (.map kt et) := by kernel_rfl) : Dr S C :=
 dWrX (oOp 10 t 0 [] [vV (.map (some gm)), ks, u]) b (A ++ ⟨gm, mapO enc ms clock⟩ :: B) (A ++ ⟨gm, mapO enc (ms ++ [(x, v, clock)]) (clock + 1)⟩ :: B) (vV undef) fun E w _ T => by
  have hg : w.heap[gm]? = some (mapO enc ms clock) := T.at_ ⟨gm, mapO enc ms clock⟩ (by simp)
  have hf : (Instr.findKey kt (enc x) (ents enc ms).toArray.toList).run P w = .ok none w := by
   rw [← (fnd_lk x ms 0).2 h]
   exact K.find w x ms
  show Fin P ((semU (Instr.mapUpdate t (.map (some gm)) (ks.den E) (u.den E))).run P w) _
  rw [hks, huv]
  have hr : (semU (Instr.mapUpdate t (.map (some gm)) (enc x) v)).run P w = .ok .skip { w with heap := w.heap.setIfInBounds gm (mapO enc (ms ++ [(x, v, clock)]) (clock + 1)) } := by
   simp only [semU, Instr.mapUpdate, Sem.run_bind, run_underlying hu, Result.andThen_ok, MapKept.run_getObj_map hg, K.check, hf, MapKept.run_setObj_map _ hg, Sem.run_pure]
   simp [mapO, ents]
  rw [hr]
  exact ⟨rfl, okT_blk T grw_setB (at_setB hg)⟩
end
abbrev wG : ByteArray := ⟨#[103, 114, 111, 117, 112]⟩
abbrev wT : ByteArray := ⟨#[116, 97, 103]⟩
abbrev wH : ByteArray := ⟨#[104, 111, 115, 116]⟩
abbrev wA : ByteArray := ⟨#[97, 99, 99, 101, 112, 116]⟩
abbrev mth (f g : Nat) : Value := .func (.func f) #[.pointer (some ⟨g, 0, none⟩)] #[]
abbrev lnM (g : Nat) : List (ByteArray × Value × Nat) := [(wG, mth 97 g, 0), (wT, mth 98 g, 1), (wH, mth 99 g, 2), (wA, mth 100 g, 3)]
def lnD (g : Nat) : DP := fun v T => ∃ gm, v = .map (some gm) ∧ T = [⟨gm, mapO (fun s : ByteArray => Value.string s) (lnM g) 4⟩]
theorem c_lines (g : Nat) : Ct S0 C 61 [vV (.pointer (some ⟨g, 0, none⟩))] [] [] [] [tD (lnD g)] (vW 0) := by
 refine xIn Tryz.f61 fun E0 w0 hL hC hk => ?_
 refine xR 7 [(1, dMk 110)] ?_
 refine xOpen (D := mkD) 0 fun v0 T0 hv => ?_
 obtain ⟨gm, rfl, rfl⟩ := hv
 refine xR 14 [(2, dMuF 110 9 1 kmS 0 [] [] gm ((lnM g).take 0) 0 wG (vV (.string wG)) (vF (.func 97) [vV (.pointer (some ⟨g, 0, none⟩))] []) (mth 97 g) (fun E => rfl) (fun E => rfl) rfl), (5, dMuF 110 9 1 kmS 0 [] [] gm ((lnM g).take 1) 1 wT (vV (.string wT)) (vF (.func 98) [vV (.pointer (some ⟨g, 0, none⟩))] []) (mth 98 g) (fun E => rfl) (fun E => rfl) rfl), (8, dMuF 110 9 1 kmS 0 [] [] gm ((lnM g).take 2) 2 wH (vV (.string wH)) (vF (.func 99) [vV (.pointer (some ⟨g, 0, none⟩))] []) (mth 99 g) (fun E => rfl) (fun E => rfl) rfl), (11, dMuF 110 9 1 kmS 0 [] [] gm ((lnM g).take 3) 3 wA (vV (.string wA)) (vF (.func 100) [vV (.pointer (some ⟨g, 0, none⟩))] []) (mth 100 g) (fun E => rfl) (fun E => rfl) rfl)] ?_
 refine xR 1 [] ?_
 refine xPk (vV (.map (some gm))) [(0, tX ([] ++ ⟨gm, mapO (fun s : ByteArray => Value.string s) (lnM g) 4⟩ :: []))] (lnD g) [2] [] (fun E h => ⟨rfl, gm, rfl, rfl⟩) ?_
 exact xRetC [1]
end Go.Proofs.YtbdgncndhnnjoaaGreatDoor

namespace Go.Proofs.YtbdgncndhnnjoaaGreatDoor
open Go.RowKit YtbdgncndhnnjoaaGreatDoor
set_option linter.unusedVariables false
set_option linter.unusedSimpArgs false
set_option maxHeartbeats 0
set_option maxRecDepth 100000
variable {C : World → Prop}
def bnd {α β : Type} (a : Nat) (r : Rd1 α) (k : α → Rd1 β) : Rd1 β := match r with
 | .ok x => k x
 | .error (e, p) => .error (e, a + p)
def outA {α : Type} (line : Nat) (r : Rd1 α) (k : α → Out) : Out := match r with
 | .ok x => k x
 | .error (e, p) => oP (fltI e line p)
theorem outA_ok {α : Type} {line : Nat} {r : Rd1 α} {k : α → Out} {x : α} (h : r = .ok x) : outA line r k = k x := by subst h; rfl
theorem outA_err {α : Type} {line : Nat} {r : Rd1 α} {k : α → Out} {e : Int} {p : Nat} (h : r = .error (e, p)) : outA line r k = oP (fltI e line p) := by subst h; rfl
theorem outA_bnd {α β : Type} (line a : Nat) (r : Rd1 α) (f : α → Rd1 β) (k : β → Out) : outA line (bnd a r f) k = outE line a r fun x => outA line (f x) k := by
 rcases r with ⟨e, p⟩ | x <;> rfl
theorem outA_if {α : Type} (line : Nat) (c : Prop) [Decidable c] (a b : Rd1 α) (k : α → Out) : outA line (if c then a else b) k = if c then outA line a k else outA line b k := by split <;> rfl
theorem outA_O {α : Type} (line : Nat) (x : α) (k : α → Out) : outA line (.ok x) k = k x := rfl
theorem outA_E {α : Type} (line : Nat) (e : Int) (p : Nat) (k : α → Out) : outA line (.error (e, p)) k = oP (fltI e line p) := rfl
structure NY (α : Type) where
 L : List α
 q : Nat
 w : ByteArray
 r : ByteArray
structure AY where
 A : List Acl
 M : List Men
 q : Nat
 w : ByteArray
 r : ByteArray
def grE (G T : List Nam) (H : List Hst) (line at_ : Nat) (w r : ByteArray) : Rd1 (NY Nam) :=
 bnd at_ (nnE (tellL G T H 3) G.length (wrd w r)) fun _ =>
 bnd (at_ + 3) (lsE nmC ⟨#[]⟩ (wrd (wrd w r 3) (rst r 3)) 65 0) fun j =>
 .ok ⟨(G ++ [⟨wrd w r 1, wrds (wrd w r 3) (rst r 3) j⟩]), (at_ + 3 + j), (wrd (wrd w r 3) (rst r 3) j), (rst (rst r 3) j)⟩
def tgE (G T : List Nam) (H : List Hst) (line at_ : Nat) (w r : ByteArray) : Rd1 (NY Nam) :=
 bnd at_ (nnE (tellL G T H 4) T.length (wrd w r)) fun _ =>
 bnd (at_ + 3) (lsE nmC ⟨#[]⟩ (wrd (wrd w r 3) (rst r 3)) 65 0) fun j =>
 .ok ⟨(T ++ [⟨wrd w r 1, wrds (wrd w r 3) (rst r 3) j⟩]), (at_ + 3 + j), (wrd (wrd w r 3) (rst r 3) j), (rst (rst r 3) j)⟩
def hsE (G T : List Nam) (H : List Hst) (line at_ : Nat) (w r : ByteArray) : Rd1 (NY Hst) :=
 bnd at_ (nnE (tellL G T H 5) H.length (wrd w r)) fun _ =>
 if (wrd w r 3).size = 0 then .error (190, (at_ + 3)) else
 if decide (Ip.rpE (wrd w r 3) = 0) = true then
 .ok ⟨(H ++ [⟨wrd w r 1, rpN (wrd w r 3)⟩]), (at_ + 3 + 1), (wrd w r 4), (rst r 4)⟩
 else .error (192, (at_ + 3))
def acE (A : List Acl) (M : List Men) (line at_ : Nat) (w r : ByteArray) : Rd1 AY :=
 if A.length < 64 then
 if (wdF r).size = 0 then .error (190, (at_ + 1)) else
 if prB (wdF r) = true then
 if wdF (rsF r) = ⟨#[102, 114, 111, 109]⟩ then
 bnd (at_ + 1 + 1 + 1) (lsE seC ⟨#[116, 111]⟩ (wrd (wdF (rsF (rsF r))) (rsF (rsF (rsF r)))) 65 0) fun j =>
 if wrd (wdF (rsF (rsF r))) (rsF (rsF (rsF r))) j = ⟨#[116, 111]⟩ then
 bnd (at_ + 1 + 1 + 1 + j + 1) (lsE seC ⟨#[112, 111, 114, 116, 115]⟩ (wrd (wdF (rst (rsF (rsF (rsF r))) j)) (rsF (rst (rsF (rsF (rsF r))) j))) 65 0) fun k =>
 if (wrd (wdF (rst (rsF (rsF (rsF r))) j)) (rsF (rst (rsF (rsF (rsF r))) j)) k).size = 0 then
 .ok ⟨(A ++ [⟨prF (wdF r), sels (wdF (rsF (rsF r))) (rsF (rsF (rsF r))) j, sels (wdF (rst (rsF (rsF (rsF r))) j)) (rsF (rst (rsF (rsF (rsF r))) j)) k, []⟩]), (mens (mens M line (at_ + 1 + 1 + 1) (wdF (rsF (rsF r))) (rsF (rsF (rsF r))) j) line (at_ + 1 + 1 + 1 + j + 1) (wdF (rst (rsF (rsF (rsF r))) j)) (rsF (rst (rsF (rsF (rsF r))) j)) k), (at_ + 1 + 1 + 1 + j + 1 + k), (wrd (wdF (rst (rsF (rsF (rsF r))) j)) (rsF (rst (rsF (rsF (rsF r))) j)) k), (rst (rsF (rst (rsF (rsF (rsF r))) j)) k)⟩
 else if wrd (wdF (rst (rsF (rsF (rsF r))) j)) (rsF (rst (rsF (rsF (rsF r))) j)) k = ⟨#[112, 111, 114, 116, 115]⟩ then
 bnd (at_ + 1 + 1 + 1 + j + 1 + k + 1) (lsE poC ⟨#[]⟩ (wrd (wdF (rst (rsF (rst (rsF (rsF (rsF r))) j)) k)) (rsF (rst (rsF (rst (rsF (rsF (rsF r))) j)) k))) 65 0) fun m =>
 .ok ⟨(A ++ [⟨prF (wdF r), sels (wdF (rsF (rsF r))) (rsF (rsF (rsF r))) j, sels (wdF (rst (rsF (rsF (rsF r))) j)) (rsF (rst (rsF (rsF (rsF r))) j)) k, prts (wdF (rst (rsF (rst (rsF (rsF (rsF r))) j)) k)) (rsF (rst (rsF (rst (rsF (rsF (rsF r))) j)) k)) m⟩]), (mens (mens M line (at_ + 1 + 1 + 1) (wdF (rsF (rsF r))) (rsF (rsF (rsF r))) j) line (at_ + 1 + 1 + 1 + j + 1) (wdF (rst (rsF (rsF (rsF r))) j)) (rsF (rst (rsF (rsF (rsF r))) j)) k), (at_ + 1 + 1 + 1 + j + 1 + k + 1 + m), (wrd (wdF (rst (rsF (rst (rsF (rsF (rsF r))) j)) k)) (rsF (rst (rsF (rst (rsF (rsF (rsF r))) j)) k)) m), (rst (rsF (rst (rsF (rst (rsF (rsF (rsF r))) j)) k)) m)⟩
 else .error (190, (at_ + 1 + 1 + 1 + j + 1 + k))
 else .error (190, (at_ + 1 + 1 + 1 + j))
 else .error (190, (at_ + 1 + 1))
 else .error (194, (at_ + 1))
 else .error (198, at_)
theorem grO_eq (G T : List Nam) (H : List Hst) (line at_ : Nat) (w r : ByteArray) : grO G T H line at_ w r = outA line (grE G T H line at_ w r) fun y => oR [gap, rdX 7 0 1 2 3 line y.q y.w, rsI y.r] [tD (namD y.L)] (vT []) := by
 unfold grO grE
 simp only [outA_bnd, outA_if, outA_O, outA_E]
theorem tgO_eq (G T : List Nam) (H : List Hst) (line at_ : Nat) (w r : ByteArray) : tgO G T H line at_ w r = outA line (tgE G T H line at_ w r) fun y => oR [gap, rdX 0 7 1 2 3 line y.q y.w, rsI y.r] [tD (namD y.L)] (vT []) := by
 unfold tgO tgE
 simp only [outA_bnd, outA_if, outA_O, outA_E]
theorem hsO_eq (G T : List Nam) (H : List Hst) (line at_ : Nat) (w r : ByteArray) : hsO G T H line at_ w r = outA line (hsE G T H line at_ w r) fun y => oR [gap, rdX 0 1 7 2 3 line y.q y.w, rsI y.r] [tD (hstD y.L)] (vT []) := by
 unfold hsO hsE
 simp only [outA_bnd, outA_if, outA_O, outA_E]
theorem acO_eq (A : List Acl) (M : List Men) (line at_ : Nat) (w r : ByteArray) : acO A M line at_ w r = outA line (acE A M line at_ w r) fun y => oR [gap, gap, rdX 0 1 2 7 8 line y.q y.w, rsI y.r] [tD (aclD y.A), tD (menD y.M)] (vT []) := by
 unfold acO acE
 simp only [outA_bnd, outA_if, outA_O, outA_E]
end Go.Proofs.YtbdgncndhnnjoaaGreatDoor

namespace Go.Proofs.YtbdgncndhnnjoaaGreatDoor
open Go.RowKit YtbdgncndhnnjoaaGreatDoor
set_option linter.unusedVariables false
set_option linter.unusedSimpArgs false
set_option maxHeartbeats 0
set_option maxRecDepth 100000
variable {C : World → Prop}
structure PS where
 G : List Nam
 T : List Nam
 H : List Hst
 A : List Acl
 M : List Men
 q : Nat
def finE (w : ByteArray) (s : PS) : Rd1 PS := if w.size = 0 then .ok s else .error (190, s.q)
def lnE (s : PS) (n : Nat) (l : ByteArray) : Rd1 PS :=
 if (wdF l).size = 0 then .ok ⟨s.G, s.T, s.H, s.A, s.M, 0⟩ else
 if wdF l = wG then (match grE s.G s.T s.H n 0 (wdF l) (rsF l) with | .error x => .error x | .ok y => finE y.w ⟨y.L, s.T, s.H, s.A, s.M, y.q⟩) else
 if wdF l = wT then (match tgE s.G s.T s.H n 0 (wdF l) (rsF l) with | .error x => .error x | .ok y => finE y.w ⟨s.G, y.L, s.H, s.A, s.M, y.q⟩) else
 if wdF l = wH then (match hsE s.G s.T s.H n 0 (wdF l) (rsF l) with | .error x => .error x | .ok y => finE y.w ⟨s.G, s.T, y.L, s.A, s.M, y.q⟩) else
 if wdF l = wA then (match acE s.A s.M n 0 (wdF l) (rsF l) with | .error x => .error x | .ok y => finE y.w ⟨s.G, s.T, s.H, y.A, y.M, y.q⟩) else
 .error (190, 0)
def ps0 : PS := ⟨[], [], [], [], [], 0⟩
def lnsE (ls : List ByteArray) : Nat → Except (Int × Int × Int) PS
 | 0 => .ok ps0
 | x + 1 => match lnsE ls x with
  | .error e => .error e
  | .ok s => match lnE s (x + 1) (Ip.tg ls x) with
   | .error (e, p) => .error (e, ((x + 1 : Nat) : Int), (p : Int))
   | .ok s => .ok s
abbrev nlB : ByteArray := ⟨#[10]⟩
def prA (t : ByteArray) : Except (Int × Int × Int) PS := match lnsE (Ip.spl t nlB) (Ip.spl t nlB).length with
 | .error e => .error e
 | .ok s => match s.M.find? (fun m => !mtl s.G s.T s.H m) with
  | none => .ok s
  | some m => .error (m.e, m.line, m.at_)
abbrev tkD : DP := fun _ _ => True
def rd0 : It := tC [vV (.slice none 0 0), vV (.slice none 0 0), vV (.slice none 0 0), vV (.slice none 0 0), vV (.int .i64 0), vV (.int .i64 0), vV (.string ⟨#[]⟩), vV .nilFunc, vV (.slice none 0 0)] 70
def rdE (n q : Nat) : It := tC [vW 1, vW 2, vW 3, vW 4, vV (.int .i64 (n : Int)), vV (.int .i64 (q : Int)), vV (.string ⟨#[]⟩), vW 6, vW 5] 70
def txO (t : ByteArray) : Out := match prA t with
 | .error (e, n, p) => oP (vI 109 (vG [vV (.int .i64 e), vV (.int .i64 n), vV (.int .i64 p)]))
 | .ok s => oR [rdE (Ip.spl t nlB).length s.q] [tD (namD s.G), tD (namD s.T), tD (hstD s.H), tD (aclD s.A), tD (menD s.M), tD tkD] (vT [])
theorem lns_ok {ls : List ByteArray} {x : Nat} {s s' : PS} (h : lnsE ls x = .ok s) (h2 : lnE s (x + 1) (Ip.tg ls x) = .ok s') : lnsE ls (x + 1) = .ok s' := by
 rw [show lnsE ls (x + 1) = (match lnsE ls x with | .error e => .error e | .ok s => match lnE s (x + 1) (Ip.tg ls x) with | .error (e, p) => .error (e, ((x + 1 : Nat) : Int), (p : Int)) | .ok s => .ok s) from rfl, h]
 show (match lnE s (x + 1) (Ip.tg ls x) with | .error (e, p) => _ | .ok s => _) = _
 rw [h2]
theorem lns_no {ls : List ByteArray} {x : Nat} {s : PS} {e : Int} {p : Nat} (h : lnsE ls x = .ok s) (h2 : lnE s (x + 1) (Ip.tg ls x) = .error (e, p)) : ∀ y, x < y → lnsE ls y = .error (e, ((x + 1 : Nat) : Int), (p : Int))
 | y + 1, hy => by
  by_cases e1 : x = y
  ·subst e1
   rw [show lnsE ls (x + 1) = (match lnsE ls x with | .error e => .error e | .ok s => match lnE s (x + 1) (Ip.tg ls x) with | .error (e, p) => .error (e, ((x + 1 : Nat) : Int), (p : Int)) | .ok s => .ok s) from rfl, h]
   show (match lnE s (x + 1) (Ip.tg ls x) with | .error (e, p) => _ | .ok s => _) = _
   rw [h2]
  ·rw [show lnsE ls (y + 1) = (match lnsE ls y with | .error e => .error e | .ok s => match lnE s (y + 1) (Ip.tg ls y) with | .error (e, p) => .error (e, ((y + 1 : Nat) : Int), (p : Int)) | .ok s => .ok s) from rfl, lns_no h h2 y (by omega)]
theorem tx_no {t : ByteArray} {x : Nat} {s : PS} {e : Int} {p : Nat} (h : lnsE (Ip.spl t nlB) x = .ok s) (hx : x < (Ip.spl t nlB).length) (h2 : lnE s (x + 1) (Ip.tg (Ip.spl t nlB) x) = .error (e, p)) : txO t = oP (fltI e (x + 1) p) := by
 unfold txO prA
 rw [lns_no h h2 _ hx]
 rfl
theorem lnE_eq (s : PS) (n : Nat) (l : ByteArray) : lnE s n l = (
 if (wdF l).size = 0 then .ok ⟨s.G, s.T, s.H, s.A, s.M, 0⟩ else
 if wdF l = wG then (match grE s.G s.T s.H n 0 (wdF l) (rsF l) with | .error x => .error x | .ok y => finE y.w ⟨y.L, s.T, s.H, s.A, s.M, y.q⟩) else
 if wdF l = wT then (match tgE s.G s.T s.H n 0 (wdF l) (rsF l) with | .error x => .error x | .ok y => finE y.w ⟨s.G, y.L, s.H, s.A, s.M, y.q⟩) else
 if wdF l = wH then (match hsE s.G s.T s.H n 0 (wdF l) (rsF l) with | .error x => .error x | .ok y => finE y.w ⟨s.G, s.T, y.L, s.A, s.M, y.q⟩) else
 if wdF l = wA then (match acE s.A s.M n 0 (wdF l) (rsF l) with | .error x => .error x | .ok y => finE y.w ⟨s.G, s.T, s.H, y.A, y.M, y.q⟩) else
 .error (190, 0)) := rfl
theorem sz0 {w : ByteArray} (h : w.size = 0) : w = ⟨#[]⟩ := by
 obtain ⟨a⟩ := w
 have : a.size = 0 := h
 rw [Array.size_eq_zero_iff.1 this]
theorem spl_part (sep : ByteArray) : ∀ (k : Nat) (s : ByteArray), ∀ p ∈ Lib.splitB sep 0 k s, p.size ≤ s.size
 | 0, s, p, h => by
  rw [Lib.splitB_zero, List.mem_singleton] at h
  rw [h]
  exact Nat.le_refl _
 | k + 1, s, p, h => by
  rcases Lib.indexB_cases s sep with hi | ⟨i, hi, _⟩
  ·rw [Lib.splitB_miss sep 0 (k + 1) s hi, List.mem_singleton] at h
   rw [h]
   exact Nat.le_refl _
  ·rw [Lib.splitB_hit sep 0 k s i hi] at h
   rcases List.mem_cons.1 h with rfl | h
   ·rw [ByteArray.size_extract]; omega
   ·have := spl_part sep k _ p h
    rw [ByteArray.size_extract] at this
    omega
theorem tg_le (t : ByteArray) (x : Nat) : (Ip.tg (Ip.spl t nlB) x).size ≤ t.size := by
 unfold Ip.tg
 rw [List.getD_eq_getElem?_getD]
 cases h : (Ip.spl t nlB)[x]? with
 | none => exact Nat.zero_le _
 | some p => exact spl_part nlB _ t p (List.mem_of_getElem? h)
structure Bd (s : PS) : Prop where
 G : s.G.length ≤ 64
 T : s.T.length ≤ 64
 H : s.H.length ≤ 64
 A : s.A.length ≤ 64
 M : s.M.length ≤ 200 * s.A.length
theorem bnd_ok {α β : Type} {a : Nat} {r : Rd1 α} {k : α → Rd1 β} {y : β} (h : bnd a r k = .ok y) : ∃ x, r = .ok x ∧ k x = .ok y := by
 rcases r with ⟨e, p⟩ | x
 ·cases h
 ·exact ⟨x, rfl, h⟩
theorem nnE_ok {tl : ByteArray → Bool} {n : Nat} {u : Nat → ByteArray} {x : Unit} (h : nnE tl n u = .ok x) : n < 64 := by
 unfold nnE at h
 split at h
 ·assumption
 ·cases h
theorem grE_ok {G T : List Nam} {H : List Hst} {n a : Nat} {w r : ByteArray} {y : NY Nam} (h : grE G T H n a w r = .ok y) : y.L.length ≤ 64 := by
 obtain ⟨x, h1, h⟩ := bnd_ok h
 obtain ⟨j, h2, h⟩ := bnd_ok h
 have := nnE_ok h1
 cases h
 simp
 omega
theorem tgE_ok {G T : List Nam} {H : List Hst} {n a : Nat} {w r : ByteArray} {y : NY Nam} (h : tgE G T H n a w r = .ok y) : y.L.length ≤ 64 := by
 obtain ⟨x, h1, h⟩ := bnd_ok h
 obtain ⟨j, h2, h⟩ := bnd_ok h
 have := nnE_ok h1
 cases h
 simp
 omega
theorem hsE_ok {G T : List Nam} {H : List Hst} {n a : Nat} {w r : ByteArray} {y : NY Hst} (h : hsE G T H n a w r = .ok y) : y.L.length ≤ 64 := by
 obtain ⟨x, h1, h⟩ := bnd_ok h
 have := nnE_ok h1
 split at h
 ·cases h
 ·split at h
  ·cases h
   simp
   omega
  ·cases h
theorem acE_ok {A : List Acl} {M : List Men} {n a : Nat} {w r : ByteArray} {y : AY} (h : acE A M n a w r = .ok y) : A.length < 64 ∧ y.A.length = A.length + 1 ∧ y.M.length ≤ M.length + 130 := by
 unfold acE at h
 split at h
 ·rename_i h0
  split at h
  ·cases h
  ·split at h
   ·split at h
    ·obtain ⟨j, h2, h⟩ := bnd_ok h
     have b2 := lsE_le h2
     split at h
     ·obtain ⟨k, h3, h⟩ := bnd_ok h
      have b3 := lsE_le h3
      split at h
      ·cases h
       exact ⟨h0, by simp, by simp only [mens_len]; omega⟩
      ·split at h
       ·obtain ⟨m, h4, h⟩ := bnd_ok h
        cases h
        exact ⟨h0, by simp, by simp only [mens_len]; omega⟩
       ·cases h
     ·cases h
    ·cases h
   ·cases h
 ·cases h
theorem finE_ok {w : ByteArray} {s s' : PS} (h : finE w s = .ok s') : s' = s := by
 unfold finE at h
 split at h
 ·cases h; rfl
 ·cases h
theorem lnE_bd {s s' : PS} {n : Nat} {l : ByteArray} (b : Bd s) (h : lnE s n l = .ok s') : Bd s' := by
 obtain ⟨b1, b2, b3, b4, b5⟩ := b
 unfold lnE at h
 split at h
 ·cases h
  exact ⟨b1, b2, b3, b4, b5⟩
 ·split at h
  ·split at h
   ·cases h
   ·rename_i y hy
    rw [finE_ok h]
    exact ⟨grE_ok hy, b2, b3, b4, b5⟩
  ·split at h
   ·split at h
    ·cases h
    ·rename_i y hy
     rw [finE_ok h]
     exact ⟨b1, tgE_ok hy, b3, b4, b5⟩
   ·split at h
    ·split at h
     ·cases h
     ·rename_i y hy
      rw [finE_ok h]
      exact ⟨b1, b2, hsE_ok hy, b4, b5⟩
    ·split at h
     ·split at h
      ·cases h
      ·rename_i y hy
       obtain ⟨c1, c2, c3⟩ := acE_ok hy
       rw [finE_ok h]
       exact ⟨b1, b2, b3, by show y.A.length ≤ _; omega, by show y.M.length ≤ 200 * y.A.length; rw [c2]; omega⟩
     ·cases h
theorem lns_bd {ls : List ByteArray} : ∀ {x : Nat} {s : PS}, lnsE ls x = .ok s → Bd s
 | 0, s, h => by
  cases h
  exact ⟨by decide, by decide, by decide, by decide, by decide⟩
 | x + 1, s, h => by
  rw [show lnsE ls (x + 1) = (match lnsE ls x with | .error e => .error e | .ok s => match lnE s (x + 1) (Ip.tg ls x) with | .error (e, p) => .error (e, ((x + 1 : Nat) : Int), (p : Int)) | .ok s => .ok s) from rfl] at h
  rcases h1 : lnsE ls x with e | s1
  ·rw [h1] at h; cases h
  ·rw [h1] at h
   have h : (match lnE s1 (x + 1) (Ip.tg ls x) with | .error (e, p) => .error (e, ((x + 1 : Nat) : Int), (p : Int)) | .ok s => .ok s) = Except.ok s := h
   rcases h2 : lnE s1 (x + 1) (Ip.tg ls x) with ⟨e, p⟩ | s2
   ·rw [h2] at h; cases h
   ·rw [h2] at h
    cases h
    exact lnE_bd (lns_bd h1) h2
theorem c_unkB (G T : List Nam) (H : List Hst) (a k : DP) (M : List Men) (line at_ : Nat) (w : ByteArray) (hG : G.length < 1000000) (hT : T.length < 1000000) (hH : H.length < 1000000) (hM : M.length < 1000000) : Cu S0 C 65 [vP 5 0] [tD (namD G), tD (namD T), tD (hstD H), tD a, tD (menD M), rdB line at_ w, tD k] [] (unkO G T H M) := by
 refine xInU Tryz.f65 fun E0 w0 hL hC hk => ?_
 refine xR 6 [] ?_
 refine xOpenF (D := menD M) 4 fun v0 T0 hv => ?_
 obtain ⟨base, cap, b0, o, rfl, H9⟩ := rowM hv
 refine xR 4 [] ?_
 refine xLp (fun (x : Nat) => [(9, vV (.int .i64 (x : Int)))]) (fun x => []) [10, 11, 12, 3, 13, 14, 15, 16, 17, 18, 19, 20, 21, 22, 23, 24] (fun x => x ≤ M.length ∧ ∀ i, i < x → mtl G T H (M.getD i men0) = true) (fun x => M.length - x) 0 ⟨by omega, fun i hi => by omega⟩ fun x d hx g => ?_
 by_cases q1 : (x : Int) < (M.length : Int)
 ·cases q2 : mtl G T H (M.getD x men0)
  ·refine xUo (unk_hit (by omega) hx.2 q2) ?_
   have q3 : tellL G T H (M.getD x men0).sel.kind (M.getD x men0).sel.name = false := q2
   refine xR 23 [(0, dT q1), (1, dIxR 68 H9 cap x (by omega)), (2, dLdRF 141 4 (Value.slice base M.length cap) H9 x (by omega)), (11, dC ((c_tellsD G T H a ((M.getD x men0).sel.kind) ((M.getD x men0).sel.name) ((M.getD x men0).sel.net.v6) ((M.getD x men0).sel.net.hi) ((M.getD x men0).sel.net.lo) ((M.getD x men0).sel.net.bits) hG hT hH).rb q3) [0, 1, 2, 3])] ?_
   exact xUp (rfl) xPan
  ·have q3 : tellL G T H (M.getD x men0).sel.kind (M.getD x men0).sel.name = true := q2
   refine xR 25 [(0, dT q1), (1, dIxR 68 H9 cap x (by omega)), (2, dLdRF 141 4 (Value.slice base M.length cap) H9 x (by omega)), (11, dC ((c_tellsD G T H a ((M.getD x men0).sel.kind) ((M.getD x men0).sel.name) ((M.getD x men0).sel.net.v6) ((M.getD x men0).sel.net.hi) ((M.getD x men0).sel.net.lo) ((M.getD x men0).sel.net.bits) hG hT hH).rb q3) [0, 1, 2, 3]), (13, dW ((↑x : Int) + 1) ((↑(x + 1) : Int)) (by omega) (by omega) (by omega))] ?_
   exact xNx g (x + 1) [10, 11, 12, 3, 13, 14, 15, 16, 17, 18, 19, 20, 21, 22, 23, 24] [0, 1, 2, 3, 4, 5, 6] ⟨by omega, fun i hi => by rcases Nat.lt_succ_iff_lt_or_eq.1 hi with h | h; exact hx.2 i h; rw [h]; exact q2⟩ (by omega)
 ·refine xUo (unk_none (by omega) hx.2) ?_
  refine xR 7 [(0, dF q1)] ?_
  refine xWk (D := fixD (.slice base M.length cap) T0) 4 (menD M) (fun v T h => by obtain ⟨rfl, rfl⟩ := h; exact hv) ?_
  exact xUr rfl (xRetC [])
abbrev txD : List Nat := [15, 16, 17, 6, 18, 19, 20, 21, 22, 23, 24, 25, 26, 27, 28, 29, 30, 31, 32, 34, 35, 36, 37, 38, 39, 33, 40, 41, 7, 8, 42, 43, 44, 45, 46, 47, 48, 49, 50, 51, 52, 53, 54]
abbrev rdT (n q : Nat) : It := tC [vW 3, vW 4, vW 5, vW 6, vV (.int .i64 (n : Int)), vV (.int .i64 (q : Int)), vV (.string ⟨#[]⟩), vW 8, vW 7] 70
def stF (ls : List ByteArray) (x : Nat) : PS := match lnsE ls x with | .ok s => s | .error _ => ps0
theorem c_text (t : ByteArray) (ht : t.size ≤ 8192) : Cu S0 C 28 [vP 0 0, vV (.string t)] [] [rd0] (txO t) := by
 refine xInU Tryz.f28 fun E0 w0 hL hC hk => ?_
 have k1 := fun C => c_lines (C := C) (E0 0).g
 have k2 := fun C => c_split (C := C) t nlB (by omega) (by decide)
 refine xR 3 [] ?_
 refine xSl 9 (vV (.pointer (some ⟨(E0 0).g, 0, none⟩))) (fun E h => by
  show Value.pointer (some ⟨(E 0).g, 0, none⟩) = _
  rw [h 0 (by decide)]
  rfl) ?_
 refine xR 8 [(0, dC (k1 _) []), (3, dC (k2 _) [])] ?_
 refine xOpen (D := lnD (E0 0).g) 1 fun v0 T0 hv => ?_
 obtain ⟨gm, rfl, rfl⟩ := hv
 refine xOpen (D := splD (Ip.spl t nlB)) 2 fun v0 T0 hv => ?_
 obtain ⟨base, cap, b0, o, rfl, H⟩ := hv
 refine xPk (vV (.slice none 0 0)) [] (namD []) [] [(0, 0)] (fun _ _ => ⟨rfl, row_nil _ _ _⟩) ?_
 refine xPk (vV (.slice none 0 0)) [] (namD []) [] [(0, 1)] (fun _ _ => ⟨rfl, row_nil _ _ _⟩) ?_
 refine xPk (vV (.slice none 0 0)) [] (hstD []) [] [(0, 2)] (fun _ _ => ⟨rfl, row_nil _ _ _⟩) ?_
 refine xPk (vV (.slice none 0 0)) [] (aclD []) [] [(0, 3)] (fun _ _ => ⟨rfl, row_nil _ _ _⟩) ?_
 refine xPk (vV (.slice none 0 0)) [] (menD []) [] [(0, 8)] (fun _ _ => ⟨rfl, row_nil _ _ _⟩) ?_
 refine xPk (vV .nilFunc) [] tkD [] [(0, 7)] (fun _ _ => ⟨rfl, trivial⟩) ?_
 obtain ⟨st, hst⟩ : ∃ f : Nat → PS, f = stF (Ip.spl t nlB) := ⟨_, rfl⟩
 have hs0 : st 0 = ps0 := by rw [hst]; rfl
 have hsx : ∀ x s, lnsE (Ip.spl t nlB) x = .ok s → st x = s := fun x s h => by rw [hst]; unfold stF; rw [h]
 refine xR 4 [] ?_
 refine xWk 3 (D := namD []) (namD (st 0).G) (fun v T h => by rw [hs0]; exact h) ?_
 refine xWk 4 (D := namD []) (namD (st 0).T) (fun v T h => by rw [hs0]; exact h) ?_
 refine xWk 5 (D := hstD []) (hstD (st 0).H) (fun v T h => by rw [hs0]; exact h) ?_
 refine xWk 6 (D := aclD []) (aclD (st 0).A) (fun v T h => by rw [hs0]; exact h) ?_
 refine xWk 7 (D := menD []) (menD (st 0).M) (fun v T h => by rw [hs0]; exact h) ?_
 refine xIt 0 (x := rdT 0 0) (y := rdT 0 (st 0).q) (by rw [hs0]; rfl) ?_
 refine xLp (fun (x : Nat) => [(14, vV (.int .i64 (x : Int)))]) (fun x => [(0, rdT x (st x).q), (3, tD (namD (st x).G)), (4, tD (namD (st x).T)), (5, tD (hstD (st x).H)), (6, tD (aclD (st x).A)), (7, tD (menD (st x).M)), (8, tD tkD)]) txD (fun x => x ≤ (Ip.spl t nlB).length ∧ lnsE (Ip.spl t nlB) x = .ok (st x)) (fun x => (Ip.spl t nlB).length - x) 0 ⟨Nat.zero_le _, by rw [hs0]; rfl⟩ fun x d hx g => ?_
 obtain ⟨hx0, hx1⟩ := hx
 by_cases q1 : (x : Int) < ((Ip.spl t nlB).length : Int)
 ·have q2 : x < (Ip.spl t nlB).length := by omega
  have hlen := spl_le t nlB (by decide)
  have k3 := fun C => c_begin (C := C) (namD (st x).G) (namD (st x).T) (hstD (st x).H) (aclD (st x).A) (menD (st x).M) tkD (x + 1) (st x).q ⟨#[]⟩ (Ip.tg (Ip.spl t nlB) x) (Nat.le_trans (tg_le t x) (by omega))
  have eL := lnE_eq (st x) (x + 1) (Ip.tg (Ip.spl t nlB) x)
  have hrs : (rsF (Ip.tg (Ip.spl t nlB) x)).size ≤ 100000 := Nat.le_trans (rsF_le _) (Nat.le_trans (tg_le t x) (by omega))
  have hwl : (wdF (Ip.tg (Ip.spl t nlB) x)).size ≤ 100000 := Nat.le_trans (wdF_le _) (Nat.le_trans (tg_le t x) (by omega))
  have hbd := lns_bd hx1
  generalize hL : lnE (st x) (x + 1) (Ip.tg (Ip.spl t nlB) x) = lE at eL
  generalize wdF (Ip.tg (Ip.spl t nlB) x) = wl at k3 eL hwl
  generalize rsF (Ip.tg (Ip.spl t nlB) x) = rl at k3 eL hrs
  have k4 := fun C => c_need (C := C) (namD (st x).G) (namD (st x).T) (hstD (st x).H) (aclD (st x).A) (menD (st x).M) (x + 1) 0 wl rl 190
  by_cases h1 : wl.size = 0
  ·obtain rfl := sz0 h1
   rw [if_pos h1] at eL
   subst eL
   refine xR 47 [(0, dT q1), (1, dIxR 44 H cap x q2), (2, dLdR1 9 2 H x 0 (o + x * 1) q2), (8, dW ((↑x : Int) + 1) ((↑(x + 1) : Int)) (by omega) (by omega) (by omega)), (14, dC (k3 _) [3, 4, 5, 6, 7, 0, 8]), (20, dW ((↑x : Int) + 1) ((↑(x + 1) : Int)) (by omega) (by omega) (by omega))] ?_
   have hok := hL
   have hn : st (x + 1) = ⟨(st x).G, (st x).T, (st x).H, (st x).A, (st x).M, 0⟩ := hsx _ _ (lns_ok hx1 hok)
   refine xPackF (vF (.func 136) [] [vP 9 0]) [9] tkD [] [(0, 7)] (fun E h => ⟨rfl, trivial⟩) (fun E => rfl) ?_
   refine xIt 0 (x := tC [vW 3, vW 4, vW 5, vW 6, vV (.int .i64 ((x + 1 : Nat) : Int)), vV (.int .i64 ((0 : Nat) : Int)), vV (.string ⟨#[]⟩), vW 10, vW 7] 70) (y := tC [vW 3, vW 4, vW 5, vW 6, vV (.int .i64 ((x + 1 : Nat) : Int)), vV (.int .i64 (((st (x + 1)).q : Nat) : Int)), vV (.string ⟨#[]⟩), vW 10, vW 7] 70) (by rw [hn]) ?_
   refine xWk 3 (D := namD (st x).G) (namD (st (x + 1)).G) (fun v T h => by rw [hn]; exact h) ?_
   refine xWk 4 (D := namD (st x).T) (namD (st (x + 1)).T) (fun v T h => by rw [hn]; exact h) ?_
   refine xWk 5 (D := hstD (st x).H) (hstD (st (x + 1)).H) (fun v T h => by rw [hn]; exact h) ?_
   refine xWk 6 (D := aclD (st x).A) (aclD (st (x + 1)).A) (fun v T h => by rw [hn]; exact h) ?_
   refine xWk 7 (D := menD (st x).M) (menD (st (x + 1)).M) (fun v T h => by rw [hn]; exact h) ?_
   exact xNx g (x + 1) txD [0, 1, 2, 3, 4, 5, 6, 7, 10] ⟨by omega, by rw [hn]; exact lns_ok hx1 hok⟩ (by omega)
  ·rw [if_neg h1] at eL
   by_cases hk : wl = wG
   ·rw [if_pos hk] at eL
    have k5 := fun C => c_group (C := C) (st x).G (st x).T (st x).H (aclD (st x).A) (menD (st x).M) (x + 1) 0 wl rl (by decide) (by have := hbd.G; omega) (by have := hbd.T; omega) (by have := hbd.H; omega)
    simp only [grO_eq] at k5
    have hm : lkM wl (lnM (E0 0).g) = some (mth 97 (E0 0).g) := by rw [hk]; rfl
    rcases hy : grE (st x).G (st x).T (st x).H (x + 1) 0 wl rl with ⟨e, p⟩ | ⟨L, q, w, r⟩
    ·rw [hy] at eL
     have hno : txO t = oP (fltI e (x + 1) p) := tx_no hx1 q2 (hL.trans eL)
     refine xR 66 [(0, dT q1), (1, dIxR 44 H cap x q2), (2, dLdR1 9 2 H x 0 (o + x * 1) q2), (8, dW ((↑x : Int) + 1) ((↑(x + 1) : Int)) (by omega) (by omega) (by omega)), (14, dC (k3 _) [3, 4, 5, 6, 7, 0, 8]), (19, dB ((sE0 wl).trans (DF h1))), (25, dLk1 110 9 1 kmS 1 [⟨gm, mapO (fun s : ByteArray => Value.string s) (lnM (E0 0).g) 4⟩] gm (lnM (E0 0).g) 4 wl (vV (.string wl)) .nilFunc (mth 97 (E0 0).g) (fun E => rfl) (List.mem_singleton.2 rfl) hm), (33, dC (k4 _) [3, 4, 5, 6, 7, 0, 9])] ?_
     refine xSlK 45 (vV (mth 97 (E0 0).g)) (vF (.func 97) [vP 0 0] []) (fun E h => by
       show mth 97 (E0 0).g = Value.func (.func 97) #[Value.pointer (some ⟨(E 0).g, 0, none⟩)] #[]
       rw [h 0 (by decide)]) ?_
     exact xUp hno (xPc ((k5 _).pan (outA_err hy)) [4, 5, 6, 7, 3, 0, 9])
    ·rw [hy] at eL
     replace eL : lE = finE w ⟨L, (st x).T, (st x).H, (st x).A, (st x).M, q⟩ := eL
     replace hy := outA_ok (line := x + 1) (k := fun y : NY Nam => oR [gap, rdX 7 0 1 2 3 (x + 1) y.q y.w, rsI y.r] [tD (namD y.L)] (vT [])) hy
     have k6 := fun C => (k5 C).ret hy
     by_cases hw : w.size = 0
     ·obtain rfl := sz0 hw
      have hok := hL.trans (eL.trans (if_pos rfl))
      have k7 := fun C => c_need (C := C) (namD L) (namD (st x).T) (hstD (st x).H) (aclD (st x).A) (menD (st x).M) (x + 1) q ⟨#[]⟩ r 190
      refine xR 66 [(0, dT q1), (1, dIxR 44 H cap x q2), (2, dLdR1 9 2 H x 0 (o + x * 1) q2), (8, dW ((↑x : Int) + 1) ((↑(x + 1) : Int)) (by omega) (by omega) (by omega)), (14, dC (k3 _) [3, 4, 5, 6, 7, 0, 8]), (19, dB ((sE0 wl).trans (DF h1))), (25, dLk1 110 9 1 kmS 1 [⟨gm, mapO (fun s : ByteArray => Value.string s) (lnM (E0 0).g) 4⟩] gm (lnM (E0 0).g) 4 wl (vV (.string wl)) .nilFunc (mth 97 (E0 0).g) (fun E => rfl) (List.mem_singleton.2 rfl) hm), (33, dC (k4 _) [3, 4, 5, 6, 7, 0, 9])] ?_
      refine xSlK 45 (vV (mth 97 (E0 0).g)) (vF (.func 97) [vP 0 0] []) (fun E h => by
        show mth 97 (E0 0).g = Value.func (.func 97) #[Value.pointer (some ⟨(E 0).g, 0, none⟩)] #[]
        rw [h 0 (by decide)]) ?_
      refine xR 16 [(0, dC (k6 _) [4, 5, 6, 7, 3, 0, 9]), (7, dC (k7 _) [10, 4, 5, 6, 7, 0, 9]), (8, dW ((↑x : Int) + 1) ((↑(x + 1) : Int)) (by omega) (by omega) (by omega))] ?_
      have hn : st (x + 1) = ⟨L, (st x).T, (st x).H, (st x).A, (st x).M, q⟩ := hsx _ _ (lns_ok hx1 hok)
      refine xPackF (vF (.func 136) [] [vP 9 0]) [9] tkD [] [(0, 7)] (fun E h => ⟨rfl, trivial⟩) (fun E => rfl) ?_
      refine xIt 0 (x := tC [vW 10, vW 4, vW 5, vW 6, vV (.int .i64 ((x + 1 : Nat) : Int)), vV (.int .i64 ((q : Nat) : Int)), vV (.string ⟨#[]⟩), vW 11, vW 7] 70) (y := tC [vW 10, vW 4, vW 5, vW 6, vV (.int .i64 ((x + 1 : Nat) : Int)), vV (.int .i64 (((st (x + 1)).q : Nat) : Int)), vV (.string ⟨#[]⟩), vW 11, vW 7] 70) (by rw [hn]) ?_
      refine xWk 10 (D := namD L) (namD (st (x + 1)).G) (fun v T h => by rw [hn]; exact h) ?_
      refine xWk 4 (D := namD (st x).T) (namD (st (x + 1)).T) (fun v T h => by rw [hn]; exact h) ?_
      refine xWk 5 (D := hstD (st x).H) (hstD (st (x + 1)).H) (fun v T h => by rw [hn]; exact h) ?_
      refine xWk 6 (D := aclD (st x).A) (aclD (st (x + 1)).A) (fun v T h => by rw [hn]; exact h) ?_
      refine xWk 7 (D := menD (st x).M) (menD (st (x + 1)).M) (fun v T h => by rw [hn]; exact h) ?_
      exact xNx g (x + 1) txD [0, 1, 2, 10, 4, 5, 6, 7, 11] ⟨by omega, by rw [hn]; exact lns_ok hx1 hok⟩ (by omega)
     ·have hno := tx_no hx1 q2 (hL.trans (eL.trans (if_neg hw)))
      have k8 := fun C => p_need (C := C) (namD L) (namD (st x).T) (hstD (st x).H) (aclD (st x).A) (menD (st x).M) (x + 1) q w r 190
      refine xR 66 [(0, dT q1), (1, dIxR 44 H cap x q2), (2, dLdR1 9 2 H x 0 (o + x * 1) q2), (8, dW ((↑x : Int) + 1) ((↑(x + 1) : Int)) (by omega) (by omega) (by omega)), (14, dC (k3 _) [3, 4, 5, 6, 7, 0, 8]), (19, dB ((sE0 wl).trans (DF h1))), (25, dLk1 110 9 1 kmS 1 [⟨gm, mapO (fun s : ByteArray => Value.string s) (lnM (E0 0).g) 4⟩] gm (lnM (E0 0).g) 4 wl (vV (.string wl)) .nilFunc (mth 97 (E0 0).g) (fun E => rfl) (List.mem_singleton.2 rfl) hm), (33, dC (k4 _) [3, 4, 5, 6, 7, 0, 9])] ?_
      refine xSlK 45 (vV (mth 97 (E0 0).g)) (vF (.func 97) [vP 0 0] []) (fun E h => by
        show mth 97 (E0 0).g = Value.func (.func 97) #[Value.pointer (some ⟨(E 0).g, 0, none⟩)] #[]
        rw [h 0 (by decide)]) ?_
      refine xR 9 [(0, dC (k6 _) [4, 5, 6, 7, 3, 0, 9]), (6, dB ((sE0 w).trans (DF hw)))] ?_
      exact xUp hno (xPc (k8 _) [10, 4, 5, 6, 7, 0, 9])
   ·rw [if_neg hk] at eL
    have hg1 := hk
    clear hk
    by_cases hk : wl = wT
    ·rw [if_pos hk] at eL
     have k5 := fun C => c_tag (C := C) (st x).G (st x).T (st x).H (aclD (st x).A) (menD (st x).M) (x + 1) 0 wl rl (by decide) (by have := hbd.G; omega) (by have := hbd.T; omega) (by have := hbd.H; omega)
     simp only [tgO_eq] at k5
     have hm : lkM wl (lnM (E0 0).g) = some (mth 98 (E0 0).g) := by rw [hk]; rfl
     rcases hy : tgE (st x).G (st x).T (st x).H (x + 1) 0 wl rl with ⟨e, p⟩ | ⟨L, q, w, r⟩
     ·rw [hy] at eL
      have hno : txO t = oP (fltI e (x + 1) p) := tx_no hx1 q2 (hL.trans eL)
      refine xR 66 [(0, dT q1), (1, dIxR 44 H cap x q2), (2, dLdR1 9 2 H x 0 (o + x * 1) q2), (8, dW ((↑x : Int) + 1) ((↑(x + 1) : Int)) (by omega) (by omega) (by omega)), (14, dC (k3 _) [3, 4, 5, 6, 7, 0, 8]), (19, dB ((sE0 wl).trans (DF h1))), (25, dLk1 110 9 1 kmS 1 [⟨gm, mapO (fun s : ByteArray => Value.string s) (lnM (E0 0).g) 4⟩] gm (lnM (E0 0).g) 4 wl (vV (.string wl)) .nilFunc (mth 98 (E0 0).g) (fun E => rfl) (List.mem_singleton.2 rfl) hm), (33, dC (k4 _) [3, 4, 5, 6, 7, 0, 9])] ?_
      refine xSlK 45 (vV (mth 98 (E0 0).g)) (vF (.func 98) [vP 0 0] []) (fun E h => by
        show mth 98 (E0 0).g = Value.func (.func 98) #[Value.pointer (some ⟨(E 0).g, 0, none⟩)] #[]
        rw [h 0 (by decide)]) ?_
      exact xUp hno (xPc ((k5 _).pan (outA_err hy)) [3, 5, 6, 7, 4, 0, 9])
     ·rw [hy] at eL
      replace eL : lE = finE w ⟨(st x).G, L, (st x).H, (st x).A, (st x).M, q⟩ := eL
      replace hy := outA_ok (line := x + 1) (k := fun y : NY Nam => oR [gap, rdX 0 7 1 2 3 (x + 1) y.q y.w, rsI y.r] [tD (namD y.L)] (vT [])) hy
      have k6 := fun C => (k5 C).ret hy
      by_cases hw : w.size = 0
      ·obtain rfl := sz0 hw
       have hok := hL.trans (eL.trans (if_pos rfl))
       have k7 := fun C => c_need (C := C) (namD (st x).G) (namD L) (hstD (st x).H) (aclD (st x).A) (menD (st x).M) (x + 1) q ⟨#[]⟩ r 190
       refine xR 66 [(0, dT q1), (1, dIxR 44 H cap x q2), (2, dLdR1 9 2 H x 0 (o + x * 1) q2), (8, dW ((↑x : Int) + 1) ((↑(x + 1) : Int)) (by omega) (by omega) (by omega)), (14, dC (k3 _) [3, 4, 5, 6, 7, 0, 8]), (19, dB ((sE0 wl).trans (DF h1))), (25, dLk1 110 9 1 kmS 1 [⟨gm, mapO (fun s : ByteArray => Value.string s) (lnM (E0 0).g) 4⟩] gm (lnM (E0 0).g) 4 wl (vV (.string wl)) .nilFunc (mth 98 (E0 0).g) (fun E => rfl) (List.mem_singleton.2 rfl) hm), (33, dC (k4 _) [3, 4, 5, 6, 7, 0, 9])] ?_
       refine xSlK 45 (vV (mth 98 (E0 0).g)) (vF (.func 98) [vP 0 0] []) (fun E h => by
         show mth 98 (E0 0).g = Value.func (.func 98) #[Value.pointer (some ⟨(E 0).g, 0, none⟩)] #[]
         rw [h 0 (by decide)]) ?_
       refine xR 16 [(0, dC (k6 _) [3, 5, 6, 7, 4, 0, 9]), (7, dC (k7 _) [3, 10, 5, 6, 7, 0, 9]), (8, dW ((↑x : Int) + 1) ((↑(x + 1) : Int)) (by omega) (by omega) (by omega))] ?_
       have hn : st (x + 1) = ⟨(st x).G, L, (st x).H, (st x).A, (st x).M, q⟩ := hsx _ _ (lns_ok hx1 hok)
       refine xPackF (vF (.func 136) [] [vP 9 0]) [9] tkD [] [(0, 7)] (fun E h => ⟨rfl, trivial⟩) (fun E => rfl) ?_
       refine xIt 0 (x := tC [vW 3, vW 10, vW 5, vW 6, vV (.int .i64 ((x + 1 : Nat) : Int)), vV (.int .i64 ((q : Nat) : Int)), vV (.string ⟨#[]⟩), vW 11, vW 7] 70) (y := tC [vW 3, vW 10, vW 5, vW 6, vV (.int .i64 ((x + 1 : Nat) : Int)), vV (.int .i64 (((st (x + 1)).q : Nat) : Int)), vV (.string ⟨#[]⟩), vW 11, vW 7] 70) (by rw [hn]) ?_
       refine xWk 3 (D := namD (st x).G) (namD (st (x + 1)).G) (fun v T h => by rw [hn]; exact h) ?_
       refine xWk 10 (D := namD L) (namD (st (x + 1)).T) (fun v T h => by rw [hn]; exact h) ?_
       refine xWk 5 (D := hstD (st x).H) (hstD (st (x + 1)).H) (fun v T h => by rw [hn]; exact h) ?_
       refine xWk 6 (D := aclD (st x).A) (aclD (st (x + 1)).A) (fun v T h => by rw [hn]; exact h) ?_
       refine xWk 7 (D := menD (st x).M) (menD (st (x + 1)).M) (fun v T h => by rw [hn]; exact h) ?_
       exact xNx g (x + 1) txD [0, 1, 2, 3, 10, 5, 6, 7, 11] ⟨by omega, by rw [hn]; exact lns_ok hx1 hok⟩ (by omega)
      ·have hno := tx_no hx1 q2 (hL.trans (eL.trans (if_neg hw)))
       have k8 := fun C => p_need (C := C) (namD (st x).G) (namD L) (hstD (st x).H) (aclD (st x).A) (menD (st x).M) (x + 1) q w r 190
       refine xR 66 [(0, dT q1), (1, dIxR 44 H cap x q2), (2, dLdR1 9 2 H x 0 (o + x * 1) q2), (8, dW ((↑x : Int) + 1) ((↑(x + 1) : Int)) (by omega) (by omega) (by omega)), (14, dC (k3 _) [3, 4, 5, 6, 7, 0, 8]), (19, dB ((sE0 wl).trans (DF h1))), (25, dLk1 110 9 1 kmS 1 [⟨gm, mapO (fun s : ByteArray => Value.string s) (lnM (E0 0).g) 4⟩] gm (lnM (E0 0).g) 4 wl (vV (.string wl)) .nilFunc (mth 98 (E0 0).g) (fun E => rfl) (List.mem_singleton.2 rfl) hm), (33, dC (k4 _) [3, 4, 5, 6, 7, 0, 9])] ?_
       refine xSlK 45 (vV (mth 98 (E0 0).g)) (vF (.func 98) [vP 0 0] []) (fun E h => by
         show mth 98 (E0 0).g = Value.func (.func 98) #[Value.pointer (some ⟨(E 0).g, 0, none⟩)] #[]
         rw [h 0 (by decide)]) ?_
       refine xR 9 [(0, dC (k6 _) [3, 5, 6, 7, 4, 0, 9]), (6, dB ((sE0 w).trans (DF hw)))] ?_
       exact xUp hno (xPc (k8 _) [3, 10, 5, 6, 7, 0, 9])
    ·rw [if_neg hk] at eL
     have hg2 := hk
     clear hk
     by_cases hk : wl = wH
     ·rw [if_pos hk] at eL
      have k5 := fun C => c_host (C := C) (st x).G (st x).T (st x).H (aclD (st x).A) (menD (st x).M) (x + 1) 0 wl rl (by decide) (by have := hbd.G; omega) (by have := hbd.T; omega) (by have := hbd.H; omega) (Nat.le_trans (wrd_le (N := 100000) hwl hrs 3) (by decide))
      simp only [hsO_eq] at k5
      have hm : lkM wl (lnM (E0 0).g) = some (mth 99 (E0 0).g) := by rw [hk]; rfl
      rcases hy : hsE (st x).G (st x).T (st x).H (x + 1) 0 wl rl with ⟨e, p⟩ | ⟨L, q, w, r⟩
      ·rw [hy] at eL
       have hno : txO t = oP (fltI e (x + 1) p) := tx_no hx1 q2 (hL.trans eL)
       refine xR 66 [(0, dT q1), (1, dIxR 44 H cap x q2), (2, dLdR1 9 2 H x 0 (o + x * 1) q2), (8, dW ((↑x : Int) + 1) ((↑(x + 1) : Int)) (by omega) (by omega) (by omega)), (14, dC (k3 _) [3, 4, 5, 6, 7, 0, 8]), (19, dB ((sE0 wl).trans (DF h1))), (25, dLk1 110 9 1 kmS 1 [⟨gm, mapO (fun s : ByteArray => Value.string s) (lnM (E0 0).g) 4⟩] gm (lnM (E0 0).g) 4 wl (vV (.string wl)) .nilFunc (mth 99 (E0 0).g) (fun E => rfl) (List.mem_singleton.2 rfl) hm), (33, dC (k4 _) [3, 4, 5, 6, 7, 0, 9])] ?_
       refine xSlK 45 (vV (mth 99 (E0 0).g)) (vF (.func 99) [vP 0 0] []) (fun E h => by
         show mth 99 (E0 0).g = Value.func (.func 99) #[Value.pointer (some ⟨(E 0).g, 0, none⟩)] #[]
         rw [h 0 (by decide)]) ?_
       exact xUp hno (xPc ((k5 _).pan (outA_err hy)) [3, 4, 6, 7, 5, 0, 9])
      ·rw [hy] at eL
       replace eL : lE = finE w ⟨(st x).G, (st x).T, L, (st x).A, (st x).M, q⟩ := eL
       replace hy := outA_ok (line := x + 1) (k := fun y : NY Hst => oR [gap, rdX 0 1 7 2 3 (x + 1) y.q y.w, rsI y.r] [tD (hstD y.L)] (vT [])) hy
       have k6 := fun C => (k5 C).ret hy
       by_cases hw : w.size = 0
       ·obtain rfl := sz0 hw
        have hok := hL.trans (eL.trans (if_pos rfl))
        have k7 := fun C => c_need (C := C) (namD (st x).G) (namD (st x).T) (hstD L) (aclD (st x).A) (menD (st x).M) (x + 1) q ⟨#[]⟩ r 190
        refine xR 66 [(0, dT q1), (1, dIxR 44 H cap x q2), (2, dLdR1 9 2 H x 0 (o + x * 1) q2), (8, dW ((↑x : Int) + 1) ((↑(x + 1) : Int)) (by omega) (by omega) (by omega)), (14, dC (k3 _) [3, 4, 5, 6, 7, 0, 8]), (19, dB ((sE0 wl).trans (DF h1))), (25, dLk1 110 9 1 kmS 1 [⟨gm, mapO (fun s : ByteArray => Value.string s) (lnM (E0 0).g) 4⟩] gm (lnM (E0 0).g) 4 wl (vV (.string wl)) .nilFunc (mth 99 (E0 0).g) (fun E => rfl) (List.mem_singleton.2 rfl) hm), (33, dC (k4 _) [3, 4, 5, 6, 7, 0, 9])] ?_
        refine xSlK 45 (vV (mth 99 (E0 0).g)) (vF (.func 99) [vP 0 0] []) (fun E h => by
          show mth 99 (E0 0).g = Value.func (.func 99) #[Value.pointer (some ⟨(E 0).g, 0, none⟩)] #[]
          rw [h 0 (by decide)]) ?_
        refine xR 16 [(0, dC (k6 _) [3, 4, 6, 7, 5, 0, 9]), (7, dC (k7 _) [3, 4, 10, 6, 7, 0, 9]), (8, dW ((↑x : Int) + 1) ((↑(x + 1) : Int)) (by omega) (by omega) (by omega))] ?_
        have hn : st (x + 1) = ⟨(st x).G, (st x).T, L, (st x).A, (st x).M, q⟩ := hsx _ _ (lns_ok hx1 hok)
        refine xPackF (vF (.func 136) [] [vP 9 0]) [9] tkD [] [(0, 7)] (fun E h => ⟨rfl, trivial⟩) (fun E => rfl) ?_
        refine xIt 0 (x := tC [vW 3, vW 4, vW 10, vW 6, vV (.int .i64 ((x + 1 : Nat) : Int)), vV (.int .i64 ((q : Nat) : Int)), vV (.string ⟨#[]⟩), vW 11, vW 7] 70) (y := tC [vW 3, vW 4, vW 10, vW 6, vV (.int .i64 ((x + 1 : Nat) : Int)), vV (.int .i64 (((st (x + 1)).q : Nat) : Int)), vV (.string ⟨#[]⟩), vW 11, vW 7] 70) (by rw [hn]) ?_
        refine xWk 3 (D := namD (st x).G) (namD (st (x + 1)).G) (fun v T h => by rw [hn]; exact h) ?_
        refine xWk 4 (D := namD (st x).T) (namD (st (x + 1)).T) (fun v T h => by rw [hn]; exact h) ?_
        refine xWk 10 (D := hstD L) (hstD (st (x + 1)).H) (fun v T h => by rw [hn]; exact h) ?_
        refine xWk 6 (D := aclD (st x).A) (aclD (st (x + 1)).A) (fun v T h => by rw [hn]; exact h) ?_
        refine xWk 7 (D := menD (st x).M) (menD (st (x + 1)).M) (fun v T h => by rw [hn]; exact h) ?_
        exact xNx g (x + 1) txD [0, 1, 2, 3, 4, 10, 6, 7, 11] ⟨by omega, by rw [hn]; exact lns_ok hx1 hok⟩ (by omega)
       ·have hno := tx_no hx1 q2 (hL.trans (eL.trans (if_neg hw)))
        have k8 := fun C => p_need (C := C) (namD (st x).G) (namD (st x).T) (hstD L) (aclD (st x).A) (menD (st x).M) (x + 1) q w r 190
        refine xR 66 [(0, dT q1), (1, dIxR 44 H cap x q2), (2, dLdR1 9 2 H x 0 (o + x * 1) q2), (8, dW ((↑x : Int) + 1) ((↑(x + 1) : Int)) (by omega) (by omega) (by omega)), (14, dC (k3 _) [3, 4, 5, 6, 7, 0, 8]), (19, dB ((sE0 wl).trans (DF h1))), (25, dLk1 110 9 1 kmS 1 [⟨gm, mapO (fun s : ByteArray => Value.string s) (lnM (E0 0).g) 4⟩] gm (lnM (E0 0).g) 4 wl (vV (.string wl)) .nilFunc (mth 99 (E0 0).g) (fun E => rfl) (List.mem_singleton.2 rfl) hm), (33, dC (k4 _) [3, 4, 5, 6, 7, 0, 9])] ?_
        refine xSlK 45 (vV (mth 99 (E0 0).g)) (vF (.func 99) [vP 0 0] []) (fun E h => by
          show mth 99 (E0 0).g = Value.func (.func 99) #[Value.pointer (some ⟨(E 0).g, 0, none⟩)] #[]
          rw [h 0 (by decide)]) ?_
        refine xR 9 [(0, dC (k6 _) [3, 4, 6, 7, 5, 0, 9]), (6, dB ((sE0 w).trans (DF hw)))] ?_
        exact xUp hno (xPc (k8 _) [3, 4, 10, 6, 7, 0, 9])
     ·rw [if_neg hk] at eL
      have hg3 := hk
      clear hk
      by_cases hk : wl = wA
      ·rw [if_pos hk] at eL
       have k5 := fun C => c_accept (C := C) (namD (st x).G) (namD (st x).T) (hstD (st x).H) (st x).A (st x).M (x + 1) 0 wl rl (by decide) (by have := hbd.A; omega) (by have := hbd.A; have := hbd.M; omega) hrs
       simp only [acO_eq] at k5
       have hm : lkM wl (lnM (E0 0).g) = some (mth 100 (E0 0).g) := by rw [hk]; rfl
       rcases hy : acE (st x).A (st x).M (x + 1) 0 wl rl with ⟨e, p⟩ | ⟨A2, M2, q, w, r⟩
       ·rw [hy] at eL
        have hno : txO t = oP (fltI e (x + 1) p) := tx_no hx1 q2 (hL.trans eL)
        refine xR 66 [(0, dT q1), (1, dIxR 44 H cap x q2), (2, dLdR1 9 2 H x 0 (o + x * 1) q2), (8, dW ((↑x : Int) + 1) ((↑(x + 1) : Int)) (by omega) (by omega) (by omega)), (14, dC (k3 _) [3, 4, 5, 6, 7, 0, 8]), (19, dB ((sE0 wl).trans (DF h1))), (25, dLk1 110 9 1 kmS 1 [⟨gm, mapO (fun s : ByteArray => Value.string s) (lnM (E0 0).g) 4⟩] gm (lnM (E0 0).g) 4 wl (vV (.string wl)) .nilFunc (mth 100 (E0 0).g) (fun E => rfl) (List.mem_singleton.2 rfl) hm), (33, dC (k4 _) [3, 4, 5, 6, 7, 0, 9])] ?_
        refine xSlK 45 (vV (mth 100 (E0 0).g)) (vF (.func 100) [vP 0 0] []) (fun E h => by
          show mth 100 (E0 0).g = Value.func (.func 100) #[Value.pointer (some ⟨(E 0).g, 0, none⟩)] #[]
          rw [h 0 (by decide)]) ?_
        exact xUp hno (xPc ((k5 _).pan (outA_err hy)) [3, 4, 5, 6, 7, 0, 9])
       ·rw [hy] at eL
        replace eL : lE = finE w ⟨(st x).G, (st x).T, (st x).H, A2, M2, q⟩ := eL
        replace hy := outA_ok (line := x + 1) (k := fun y : AY => oR [gap, gap, rdX 0 1 2 7 8 (x + 1) y.q y.w, rsI y.r] [tD (aclD y.A), tD (menD y.M)] (vT [])) hy
        have k6 := fun C => (k5 C).ret hy
        by_cases hw : w.size = 0
        ·obtain rfl := sz0 hw
         have hok := hL.trans (eL.trans (if_pos rfl))
         have k7 := fun C => c_need (C := C) (namD (st x).G) (namD (st x).T) (hstD (st x).H) (aclD A2) (menD M2) (x + 1) q ⟨#[]⟩ r 190
         refine xR 66 [(0, dT q1), (1, dIxR 44 H cap x q2), (2, dLdR1 9 2 H x 0 (o + x * 1) q2), (8, dW ((↑x : Int) + 1) ((↑(x + 1) : Int)) (by omega) (by omega) (by omega)), (14, dC (k3 _) [3, 4, 5, 6, 7, 0, 8]), (19, dB ((sE0 wl).trans (DF h1))), (25, dLk1 110 9 1 kmS 1 [⟨gm, mapO (fun s : ByteArray => Value.string s) (lnM (E0 0).g) 4⟩] gm (lnM (E0 0).g) 4 wl (vV (.string wl)) .nilFunc (mth 100 (E0 0).g) (fun E => rfl) (List.mem_singleton.2 rfl) hm), (33, dC (k4 _) [3, 4, 5, 6, 7, 0, 9])] ?_
         refine xSlK 45 (vV (mth 100 (E0 0).g)) (vF (.func 100) [vP 0 0] []) (fun E h => by
           show mth 100 (E0 0).g = Value.func (.func 100) #[Value.pointer (some ⟨(E 0).g, 0, none⟩)] #[]
           rw [h 0 (by decide)]) ?_
         refine xR 16 [(0, dC (k6 _) [3, 4, 5, 6, 7, 0, 9]), (7, dC (k7 _) [3, 4, 5, 10, 11, 0, 9]), (8, dW ((↑x : Int) + 1) ((↑(x + 1) : Int)) (by omega) (by omega) (by omega))] ?_
         have hn : st (x + 1) = ⟨(st x).G, (st x).T, (st x).H, A2, M2, q⟩ := hsx _ _ (lns_ok hx1 hok)
         refine xPackF (vF (.func 136) [] [vP 9 0]) [9] tkD [] [(0, 7)] (fun E h => ⟨rfl, trivial⟩) (fun E => rfl) ?_
         refine xIt 0 (x := tC [vW 3, vW 4, vW 5, vW 10, vV (.int .i64 ((x + 1 : Nat) : Int)), vV (.int .i64 ((q : Nat) : Int)), vV (.string ⟨#[]⟩), vW 12, vW 11] 70) (y := tC [vW 3, vW 4, vW 5, vW 10, vV (.int .i64 ((x + 1 : Nat) : Int)), vV (.int .i64 (((st (x + 1)).q : Nat) : Int)), vV (.string ⟨#[]⟩), vW 12, vW 11] 70) (by rw [hn]) ?_
         refine xWk 3 (D := namD (st x).G) (namD (st (x + 1)).G) (fun v T h => by rw [hn]; exact h) ?_
         refine xWk 4 (D := namD (st x).T) (namD (st (x + 1)).T) (fun v T h => by rw [hn]; exact h) ?_
         refine xWk 5 (D := hstD (st x).H) (hstD (st (x + 1)).H) (fun v T h => by rw [hn]; exact h) ?_
         refine xWk 10 (D := aclD A2) (aclD (st (x + 1)).A) (fun v T h => by rw [hn]; exact h) ?_
         refine xWk 11 (D := menD M2) (menD (st (x + 1)).M) (fun v T h => by rw [hn]; exact h) ?_
         exact xNx g (x + 1) txD [0, 1, 2, 3, 4, 5, 10, 11, 12] ⟨by omega, by rw [hn]; exact lns_ok hx1 hok⟩ (by omega)
        ·have hno := tx_no hx1 q2 (hL.trans (eL.trans (if_neg hw)))
         have k8 := fun C => p_need (C := C) (namD (st x).G) (namD (st x).T) (hstD (st x).H) (aclD A2) (menD M2) (x + 1) q w r 190
         refine xR 66 [(0, dT q1), (1, dIxR 44 H cap x q2), (2, dLdR1 9 2 H x 0 (o + x * 1) q2), (8, dW ((↑x : Int) + 1) ((↑(x + 1) : Int)) (by omega) (by omega) (by omega)), (14, dC (k3 _) [3, 4, 5, 6, 7, 0, 8]), (19, dB ((sE0 wl).trans (DF h1))), (25, dLk1 110 9 1 kmS 1 [⟨gm, mapO (fun s : ByteArray => Value.string s) (lnM (E0 0).g) 4⟩] gm (lnM (E0 0).g) 4 wl (vV (.string wl)) .nilFunc (mth 100 (E0 0).g) (fun E => rfl) (List.mem_singleton.2 rfl) hm), (33, dC (k4 _) [3, 4, 5, 6, 7, 0, 9])] ?_
         refine xSlK 45 (vV (mth 100 (E0 0).g)) (vF (.func 100) [vP 0 0] []) (fun E h => by
           show mth 100 (E0 0).g = Value.func (.func 100) #[Value.pointer (some ⟨(E 0).g, 0, none⟩)] #[]
           rw [h 0 (by decide)]) ?_
         refine xR 9 [(0, dC (k6 _) [3, 4, 5, 6, 7, 0, 9]), (6, dB ((sE0 w).trans (DF hw)))] ?_
         exact xUp hno (xPc (k8 _) [3, 4, 5, 10, 11, 0, 9])
      ·rw [if_neg hk] at eL
       have hg4 := hk
       clear hk
       have hm : lkM wl (lnM (E0 0).g) = none := by simp [lkM, lnM, hg1, hg2, hg3, hg4]
       have hno := tx_no hx1 q2 (hL.trans eL)
       refine xR 61 [(0, dT q1), (1, dIxR 44 H cap x q2), (2, dLdR1 9 2 H x 0 (o + x * 1) q2), (8, dW ((↑x : Int) + 1) ((↑(x + 1) : Int)) (by omega) (by omega) (by omega)), (14, dC (k3 _) [3, 4, 5, 6, 7, 0, 8]), (19, dB ((sE0 wl).trans (DF h1))), (25, dLk0 110 9 1 kmS 1 [⟨gm, mapO (fun s : ByteArray => Value.string s) (lnM (E0 0).g) 4⟩] gm (lnM (E0 0).g) 4 wl (vV (.string wl)) .nilFunc (fun E => rfl) (List.mem_singleton.2 rfl) hm)] ?_
       exact xUp hno (xPc (p_need (namD (st x).G) (namD (st x).T) (hstD (st x).H) (aclD (st x).A) (menD (st x).M) (x + 1) 0 wl rl 190) [3, 4, 5, 6, 7, 0, 9])
 ·skip
  obtain rfl : x = (Ip.spl t nlB).length := by omega
  have hbd := lns_bd hx1
  have k5 := fun C => c_unkB (C := C) (st (Ip.spl t nlB).length).G (st (Ip.spl t nlB).length).T (st (Ip.spl t nlB).length).H (aclD (st (Ip.spl t nlB).length).A) tkD (st (Ip.spl t nlB).length).M (Ip.spl t nlB).length (st (Ip.spl t nlB).length).q ⟨#[]⟩ (by have := hbd.G; omega) (by have := hbd.T; omega) (by have := hbd.H; omega) (by have := hbd.A; have := hbd.M; omega)
  cases hf : (st (Ip.spl t nlB).length).M.find? (fun m => !mtl (st (Ip.spl t nlB).length).G (st (Ip.spl t nlB).length).T (st (Ip.spl t nlB).length).H m) with
  | none =>
   have hu : unkO (st (Ip.spl t nlB).length).G (st (Ip.spl t nlB).length).T (st (Ip.spl t nlB).length).H (st (Ip.spl t nlB).length).M = oR [] [] (vT []) := by unfold unkO; rw [hf]
   have ho : txO t = oR [rdE (Ip.spl t nlB).length (st (Ip.spl t nlB).length).q] [tD (namD (st (Ip.spl t nlB).length).G), tD (namD (st (Ip.spl t nlB).length).T), tD (hstD (st (Ip.spl t nlB).length).H), tD (aclD (st (Ip.spl t nlB).length).A), tD (menD (st (Ip.spl t nlB).length).M), tD tkD] (vT []) := by
    unfold txO prA
    rw [hx1]
    simp only [hf]
   have k6 := fun C => (k5 C).ret hu
   clear k5
   refine xR 11 [(0, dF q1), (2, dC (k6 _) [3, 4, 5, 6, 7, 0, 8])] ?_
   exact xUr ho (xRetC [3, 4, 5, 6, 7, 8])
  | some m =>
   have hu : unkO (st (Ip.spl t nlB).length).G (st (Ip.spl t nlB).length).T (st (Ip.spl t nlB).length).H (st (Ip.spl t nlB).length).M = oP (vI 109 (vG [vV (.int .i64 m.e), vV (.int .i64 m.line), vV (.int .i64 m.at_)])) := by unfold unkO; rw [hf]
   have ho : txO t = oP (vI 109 (vG [vV (.int .i64 m.e), vV (.int .i64 m.line), vV (.int .i64 m.at_)])) := by
    unfold txO prA
    rw [hx1]
    simp only [hf]
   refine xR 9 [(0, dF q1)] ?_
   exact xUp ho (xPc ((k5 _).pan hu) [3, 4, 5, 6, 7, 0, 8])
end Go.Proofs.YtbdgncndhnnjoaaGreatDoor

namespace Go.Proofs.YtbdgncndhnnjoaaGreatDoor
open Go.RowKit YtbdgncndhnnjoaaGreatDoor
set_option linter.unusedVariables false
set_option linter.unusedSimpArgs false
set_option maxHeartbeats 0
set_option maxRecDepth 100000
variable {C : World → Prop}
theorem ct_caughtI {I : List It} {a b : Nat} {e l t : Int} (h : CtP S0 C 27 [vP a 0, vP b 0] I (vI 109 (vG [vV (.int .i64 e), vV (.int .i64 l), vV (.int .i64 t)]))) : Ct S0 C 26 [vF (.func 27) [] [vP a 0, vP b 0]] [] I (I.map fun _ => gap) [] (vG [vV (.int .i64 e), vV (.int .i64 l), vV (.int .i64 t)]) := by
 have he : ∀ (f : Nat) (args : Array Value) (w : World), f = 26 ∨ f = 27 → (callFunc f args).run Tryz.prog w = .ok (.enter f args) w := fun f args w hf => by
  rcases hf with rfl | rfl
  ·exact congrFun (congrFun (show (fun (args : Array Value) (w : World) => (callFunc 26 args).run Tryz.prog w) = (fun args w => .ok (.enter 26 args) w) by kernel_rfl) args) w
  ·exact congrFun (congrFun (show (fun (args : Array Value) (w : World) => (callFunc 27 args).run Tryz.prog w) = (fun args w => .ok (.enter 27 args) w) by kernel_rfl) args) w
 refine ⟨fun E w hL hC T hok => ?_⟩
 have hin : ix 0 ([] ++ I) = ix 0 I := rfl
 rw [hin] at hC T hok ⊢
 show Fin Tryz.prog ((callFunc 26 #[.func (.func 27) #[] #[(vP a 0).den E, (vP b 0).den E]]).run Tryz.prog w) _
 rw [he 26 _ _ (.inl rfl)]
 have hg1 := grw_alloc w (.cells #[.int .i64 0, .int .i64 0, .int .i64 0] 36 (0, 0)) []
 have key := h.out E (w.alloc (.cells #[.int .i64 0, .int .i64 0, .int .i64 0] 36 (0, 0))) (S0.mono w _ hL (fun k hk => Below.heap_alloc _ _ _ (Nat.lt_of_lt_of_le hk (S0.lt _ hL))) (Nat.le_trans (S0.lt _ hL) hg1.size)) (fun w' hg => hC w' ((grw_alloc w _ _).trans hg fun x hx => .inr hx)) (zero_alloc T) hok
 have e1 : ((oCall 27 [vP a 0, vP b 0]).sem E).run Tryz.prog (w.alloc (.cells #[.int .i64 0, .int .i64 0, .int .i64 0] 36 (0, 0))) = .ok (.enter 27 #[(vP a 0).den E, (vP b 0).den E]) (w.alloc (.cells #[.int .i64 0, .int .i64 0, .int .i64 0] 36 (0, 0))) := he 27 _ _ (.inr rfl)
 rw [e1] at key
 have key : Calls Tryz.prog 27 #[(vP a 0).den E, (vP b 0).den E] _ _ := key
 refine (caught_pan _ _ e l t w (fun w2 => OkT (w.alloc (.cells #[.int .i64 0, .int .i64 0, .int .i64 0] 36 (0, 0))) w2 (denP E (ix 0 I)) []) (key.mono ?_)).mono ?_
 ·rintro e' w' ⟨v, rfl, rfl, hT⟩
  refine ⟨_, rfl, rfl, ?_, hT⟩
  rw [hT.grw.block w.heap.size (by simp) fun hx => by
   obtain ⟨y, hy, hyg⟩ := List.mem_map.1 hx
   have := T.lt hy
   omega]
  exact heap_alloc_new w _
 ·rintro e' w' ⟨rfl, w2, hT, hz, rfl⟩
  refine ⟨_, rfl, E, fun _ _ => rfl, ?_, rfl, ?_⟩
  ·show okP E ([] ++ (ix 0 (I.map fun _ => gap) ++ []))
   rw [List.nil_append, List.append_nil]
   exact okP_ixgap E I 0
  ·have : denP E (postC [] I (I.map fun _ => gap) []) = [] := by
    show denP E ([] ++ (ix 0 (I.map fun _ => gap) ++ [])) = []
    rw [List.nil_append, List.append_nil, denP_ixgap]
   rw [this]
   refine ⟨((grw_alloc w _ _).trans hT.grw fun x hx => .inr hx).trans (grw_setCells _ _ _ _) fun x hx => .inl (by simp at hx; omega), by simp, by simp, by simp⟩
theorem ct_caughtN {R I J N : List It} {a b : Nat} (hJ : J.length = I.length) (h : Ct S0 C 27 [vP a 0, vP b 0] R I J N (vT [])) : Ct S0 C 26 [vF (.func 27) [] [vP a 0, vP b 0]] R I J N (fltV 0 0 0) := by
 have he : ∀ (f : Nat) (args : Array Value) (w : World), f = 26 ∨ f = 27 → (callFunc f args).run Tryz.prog w = .ok (.enter f args) w := fun f args w hf => by
  rcases hf with rfl | rfl
  ·exact congrFun (congrFun (show (fun (args : Array Value) (w : World) => (callFunc 26 args).run Tryz.prog w) = (fun args w => .ok (.enter 26 args) w) by kernel_rfl) args) w
  ·exact congrFun (congrFun (show (fun (args : Array Value) (w : World) => (callFunc 27 args).run Tryz.prog w) = (fun args w => .ok (.enter 27 args) w) by kernel_rfl) args) w
 refine ⟨fun E w hL hC T hok => ?_⟩
 show Fin Tryz.prog ((callFunc 26 #[.func (.func 27) #[] #[(vP a 0).den E, (vP b 0).den E]]).run Tryz.prog w) _
 rw [he 26 _ _ (.inl rfl)]
 have hg1 := grw_alloc w (.cells #[.int .i64 0, .int .i64 0, .int .i64 0] 36 (0, 0)) []
 have key := h.out E (w.alloc (.cells #[.int .i64 0, .int .i64 0, .int .i64 0] 36 (0, 0))) (S0.mono w _ hL (fun k hk => Below.heap_alloc _ _ _ (Nat.lt_of_lt_of_le hk (S0.lt _ hL))) (Nat.le_trans (S0.lt _ hL) hg1.size)) (fun w' hg => hC w' ((grw_alloc w _ _).trans hg fun x hx => .inr hx)) (zero_alloc T) hok
 have e1 : ((oCall 27 [vP a 0, vP b 0]).sem E).run Tryz.prog (w.alloc (.cells #[.int .i64 0, .int .i64 0, .int .i64 0] 36 (0, 0))) = .ok (.enter 27 #[(vP a 0).den E, (vP b 0).den E]) (w.alloc (.cells #[.int .i64 0, .int .i64 0, .int .i64 0] 36 (0, 0))) := he 27 _ _ (.inr rfl)
 rw [e1] at key
 have key : Calls Tryz.prog 27 #[(vP a 0).den E, (vP b 0).den E] _ _ := key
 refine (caught_ret _ _ w (fun w2 => ∃ E' : Nat → Ent, (∀ i, newAt (R.length + I.length) N.length i = false → E' i = E i) ∧ okP E' (postC R I J N) ∧ OkT (w.alloc (.cells #[.int .i64 0, .int .i64 0, .int .i64 0] 36 (0, 0))) w2 (denP E (ix 0 (R ++ I))) (denP E' (postC R I J N))) (key.mono ?_)).mono ?_
 ·rintro e' w' ⟨v, rfl, E', hE, hok', rfl, hT⟩
  refine ⟨rfl, ?_, E', hE, hok', hT⟩
  rw [hT.grw.block w.heap.size (by simp) fun hx => by
   obtain ⟨y, hy, hyg⟩ := List.mem_map.1 hx
   have := T.lt hy
   omega]
  exact heap_alloc_new w _
 ·rintro e' w' ⟨rfl, w2, ⟨E', hE, hok', hT⟩, hz, rfl⟩
  refine ⟨_, rfl, E', hE, hok', rfl, ?_⟩
  have hne : ∀ y ∈ denP E' (postC R I J N), y.g ≠ w.heap.size := fun y hy hh => by
   rcases hT.ge y hy with hx | hx
   ·obtain ⟨z, hz2, hzg⟩ := List.mem_map.1 hx
    have := T.lt hz2
    omega
   ·simp at hx
    omega
  have hst := grw_setCells w.heap.size [.int .i64 0, .int .i64 0, .int .i64 0] w2 0
  refine ⟨((grw_alloc w _ _).trans hT.grw fun x hx => .inr hx).trans hst fun x hx => .inl (by simp at hx; omega), fun y hy => ?_, hT.nodup, fun y hy => ?_⟩
  ·have h1 := hT.at_ y hy
   rw [hst.block y.g (Array.getElem?_eq_some_iff.1 h1).1 (by simpa using hne y hy)]
   exact h1
  ·rcases hT.ge y hy with hx | hx
   ·exact .inl hx
   ·simp at hx
    exact .inr (by omega)
abbrev fl3 (e n p : Int) : SV := vG [vV (.int .i64 e), vV (.int .i64 n), vV (.int .i64 p)]
theorem tx_err {t : ByteArray} {e n p : Int} (h : prA t = .error (e, n, p)) : txO t = oP (vI 109 (fl3 e n p)) := by unfold txO; rw [h]
theorem tx_ok {t : ByteArray} {s : PS} (h : prA t = .ok s) : txO t = oR [rdE (Ip.spl t nlB).length s.q] [tD (namD s.G), tD (namD s.T), tD (hstD s.H), tD (aclD s.A), tD (menD s.M), tD tkD] (vT []) := by unfold txO; rw [h]
theorem p_27 (t : ByteArray) (ht : t.size ≤ 8192) {e n p : Int} (h : prA t = .error (e, n, p)) : CtP S0 C 27 [vP 1 0, vP 2 0] [rd0, tC [vP 0 0] 66, tC [vV (.string t)] 9] (vI 109 (fl3 e n p)) := by
 refine xInP Tryz.f27 fun E0 w0 hL hC hk => ?_
 have k1 := fun C => (c_text (C := C) t ht).pan (tx_err h)
 refine xR 3 [] ?_
 exact xPc (k1 _) [0]
theorem c_27 (t : ByteArray) (ht : t.size ≤ 8192) {s : PS} (h : prA t = .ok s) : Ct S0 C 27 [vP 1 0, vP 2 0] [] [rd0, tC [vP 0 0] 66, tC [vV (.string t)] 9] [tC [vW 3, vW 4, vW 5, vW 6, vV (.int .i64 ((Ip.spl t nlB).length : Int)), vV (.int .i64 (s.q : Int)), vV (.string ⟨#[]⟩), vW 8, vW 7] 70, tC [vP 0 0] 66, tC [vV (.string t)] 9] [tD (namD s.G), tD (namD s.T), tD (hstD s.H), tD (aclD s.A), tD (menD s.M), tD tkD] (vT []) := by
 refine xIn Tryz.f27 fun E0 w0 hL hC hk => ?_
 have k1 := fun C => (c_text (C := C) t ht).ret (tx_ok h)
 refine xR 5 [(2, dC (k1 _) [0])] ?_
 exact (xRetC [3, 4, 5, 6, 7, 8])
theorem c_c1 (t : ByteArray) (ht : t.size ≤ 8192) {e n p : Int} (h : prA t = .error (e, n, p)) : Ct S0 C 26 [vF (.func 27) [] [vP 1 0, vP 2 0]] [] [rd0, tC [vP 0 0] 66, tC [vV (.string t)] 9] [gap, gap, gap] [] (fl3 e n p) := ct_caughtI (p_27 t ht h)
theorem c_c2 (t : ByteArray) (ht : t.size ≤ 8192) {s : PS} (h : prA t = .ok s) : Ct S0 C 26 [vF (.func 27) [] [vP 1 0, vP 2 0]] [] [rd0, tC [vP 0 0] 66, tC [vV (.string t)] 9] [tC [vW 3, vW 4, vW 5, vW 6, vV (.int .i64 ((Ip.spl t nlB).length : Int)), vV (.int .i64 (s.q : Int)), vV (.string ⟨#[]⟩), vW 8, vW 7] 70, tC [vP 0 0] 66, tC [vV (.string t)] 9] [tD (namD s.G), tD (namD s.T), tD (hstD s.H), tD (aclD s.A), tD (menD s.M), tD tkD] (fl3 0 0 0) := ct_caughtN rfl (c_27 t ht h)
theorem c_parseE (t : ByteArray) (ht : t.size ≤ 8192) {e n p : Int} (he : ¬ e = 0) (h : prA t = .error (e, n, p)) : Ct S0 C 15 [vV (.string t)] [] [] [] [] (vT [vG [vV (.slice none 0 0), vV (.slice none 0 0), vV (.slice none 0 0), vV (.slice none 0 0)], fl3 e n p]) := by
 refine xIn Tryz.f15 fun E0 w0 hL hC hk => ?_
 have k1 := fun C => c_c1 (C := C) t ht h
 have q1 : ¬ (t.size : Int) > 8192 := by omega
 have q2 : (e != 0) = true := by simpa using he
 refine xR 39 [(5, dF q1), (11, dC (k1 _) [3, 4, 0]), (16, dB q2)] ?_
 exact (xRetC [])
theorem c_parseO (t : ByteArray) (ht : t.size ≤ 8192) {s : PS} (h : prA t = .ok s) : Ct S0 C 15 [vV (.string t)] [] [] [] [tD (namD s.G), tD (namD s.T), tD (hstD s.H), tD (aclD s.A)] (vT [vG [vW 0, vW 1, vW 2, vW 3], fl3 0 0 0]) := by
 refine xIn Tryz.f15 fun E0 w0 hL hC hk => ?_
 have k1 := fun C => c_c2 (C := C) t ht h
 have q1 : ¬ (t.size : Int) > 8192 := by omega
 refine xR 48 [(5, dF q1), (11, dC (k1 _) [3, 4, 0])] ?_
 exact xRetC [5, 6, 7, 8]
end Go.Proofs.YtbdgncndhnnjoaaGreatDoor

namespace Go.Proofs.YtbdgncndhnnjoaaGreatDoor
open Go.RowKit YtbdgncndhnnjoaaGreatDoor
set_option linter.unusedVariables false
set_option linter.unusedSimpArgs false
set_option maxHeartbeats 0
set_option maxRecDepth 100000
def lnH (b : UInt8) : List (List UInt8) → List (List UInt8)
 | [] => [[b]]
 | h :: t => (b :: h) :: t
def lnL : List UInt8 → List (List UInt8)
 | [] => [[]]
 | b :: l => if b = 10 then [] :: lnL l else lnH b (lnL l)
theorem lnL_ne : ∀ l, lnL l ≠ []
 | [] => by simp [lnL]
 | b :: l => by
  unfold lnL
  split
  ·simp
  ·cases h : lnL l <;> simp [lnH]
theorem lnL_no : ∀ (l : List UInt8), ∀ y ∈ lnL l, (10 : UInt8) ∉ y
 | [], y, h => by simp [lnL] at h; simp [h]
 | b :: l, y, h => by
  have ih := lnL_no l
  unfold lnL at h
  split at h
  ·rcases List.mem_cons.1 h with rfl | h
   ·simp
   ·exact ih y h
  ·rename_i hb
   cases hl : lnL l with
   | nil => exact absurd hl (lnL_ne l)
   | cons a t =>
    rw [hl] at h ih
    rcases List.mem_cons.1 h with rfl | h
    ·intro hm
     rcases List.mem_cons.1 hm with e | hm
     ·exact hb e.symm
     ·exact ih a (List.mem_cons_self ..) hm
    ·exact ih y (List.mem_cons_of_mem _ h)
theorem lnL_join : ∀ l : List UInt8, Lib.join (lnL l) [10] = l
 | [] => rfl
 | b :: l => by
  have ih := lnL_join l
  unfold lnL
  cases hl : lnL l with
  | nil => exact absurd hl (lnL_ne l)
  | cons a t =>
   rw [hl] at ih
   split
   ·rename_i hb
    rw [Ip.join_two, ih, hb]
    rfl
   ·cases t with
    | nil =>
     rw [show Lib.join [a] [10] = a from Lib.join_one a [10]] at ih
     rw [show Lib.join (lnH b [a]) [10] = b :: a from Lib.join_one (b :: a) [10], ih]
    | cons c t =>
     rw [Ip.join_two] at ih
     show Lib.join ((b :: a) :: c :: t) [10] = _
     rw [Ip.join_two, List.cons_append, ih]
theorem lnL_cons (b : UInt8) (l : List UInt8) : lnL (b :: l) = if b = 10 then [] :: lnL l else lnH b (lnL l) := rfl
theorem lnL_app : ∀ (a b : List UInt8), lnL (a ++ 10 :: b) = lnL a ++ lnL b
 | [], b => by simp [lnL]
 | x :: a, b => by
  have ih := lnL_app a b
  rw [List.cons_append, lnL_cons x (a ++ 10 :: b), lnL_cons x a, ih]
  split
  ·rfl
  ·cases h : lnL a with
   | nil => exact absurd h (lnL_ne a)
   | cons c t => rfl
theorem lnL_len : ∀ l : List UInt8, (lnL l).length = l.count 10 + 1
 | [] => rfl
 | b :: l => by
  have ih := lnL_len l
  unfold lnL
  split
  ·rename_i hb
   rw [hb]
   simp [ih]
  ·rename_i hb
   rw [List.count_cons_of_ne hb]
   rw [← ih]
   cases h : lnL l with
   | nil => exact absurd h (lnL_ne l)
   | cons c t => rfl
theorem spl_lines (t : ByteArray) : (Ip.spl t nlB).map (·.data.toList) = lnL t.data.toList := by
 unfold Ip.spl
 rw [Lib.splitB_data]
 show Lib.splitK [10] 0 (Lib.count t.data.toList [10]) t.data.toList = _
 cases h : lnL t.data.toList with
 | nil => exact absurd h (lnL_ne _)
 | cons a r =>
  have e := lnL_join t.data.toList
  rw [h] at e
  have := Ip.split_join 10 r a (by rw [← h]; exact lnL_no _)
  rw [e] at this
  exact this
theorem tg_data (t : ByteArray) (i : Nat) (l : List UInt8) (h : (lnL t.data.toList)[i]? = some l) : (Ip.tg (Ip.spl t nlB) i).data.toList = l := by
 rw [← spl_lines, List.getElem?_map] at h
 unfold Ip.tg
 rw [List.getD_eq_getElem?_getD]
 cases hx : (Ip.spl t nlB)[i]? with
 | none => rw [hx] at h; cases h
 | some x => rw [hx] at h; simpa using h
theorem spl_length (t : ByteArray) : (Ip.spl t nlB).length = t.data.toList.count 10 + 1 := by
 have := congrArg List.length (spl_lines t)
 rw [List.length_map, lnL_len] at this
 exact this
theorem ba_ext {a b : ByteArray} (h : a.data.toList = b.data.toList) : a = b := by
 obtain ⟨⟨a⟩⟩ := a
 obtain ⟨⟨b⟩⟩ := b
 simpa using h
theorem tg_take {s : ByteArray} {a b : List UInt8} (hs : s.data.toList = a ++ 10 :: b) {t : ByteArray} (ht : t.data.toList = a ++ 10 :: []) :
  (∀ i, i < (lnL a).length → Ip.tg (Ip.spl t nlB) i = Ip.tg (Ip.spl s nlB) i) ∧ Ip.tg (Ip.spl t nlB) (lnL a).length = ⟨#[]⟩ ∧ (Ip.spl t nlB).length = (lnL a).length + 1 := by
 have h1 : lnL s.data.toList = lnL a ++ lnL b := by rw [hs, lnL_app]
 have h2 : lnL t.data.toList = lnL a ++ [[]] := by rw [ht, lnL_app]; rfl
 refine ⟨fun i hi => ?_, ?_, ?_⟩
 ·have e : (lnL a)[i]? = some ((lnL a)[i]) := List.getElem?_eq_getElem hi
  have e1 := tg_data s i _ (by rw [h1, List.getElem?_append_left hi]; exact e)
  have e2 := tg_data t i _ (by rw [h2, List.getElem?_append_left hi]; exact e)
  exact ba_ext (by rw [e1, e2])
 ·exact ba_ext (tg_data t _ [] (by rw [h2, List.getElem?_append_right (Nat.le_refl _)]; simp))
 ·rw [spl_length, lnL_len, ht]
  simp
theorem lns_congr {ls ls' : List ByteArray} : ∀ {x : Nat}, (∀ i, i < x → Ip.tg ls i = Ip.tg ls' i) → lnsE ls x = lnsE ls' x
 | 0, _ => rfl
 | x + 1, h => by
  rw [lnsE, lnsE, lns_congr (x := x) fun i hi => h i (by omega), h x (by omega)]
theorem lns_S (ls : List ByteArray) (x : Nat) : lnsE ls (x + 1) = (match lnsE ls x with | .error e => .error e | .ok s => match lnE s (x + 1) (Ip.tg ls x) with | .error (e, p) => .error (e, ((x + 1 : Nat) : Int), (p : Int)) | .ok s => .ok s) := rfl
theorem lns_err {ls : List ByteArray} {e n p : Int} : ∀ {y : Nat}, lnsE ls y = .error (e, n, p) → ∃ (x : Nat) (s : PS) (q : Nat), x < y ∧ n = ((x + 1 : Nat) : Int) ∧ lnsE ls x = .ok s ∧ lnE s (x + 1) (Ip.tg ls x) = .error (e, q)
 | 0, h => by cases h
 | y + 1, h => by
  rcases h1 : lnsE ls y with e1 | s1
  ·rw [lns_S, h1] at h
   have h : (Except.error e1 : Except (Int × Int × Int) PS) = .error (e, n, p) := h
   cases h
   obtain ⟨x, s, q, a1, a2, a3, a4⟩ := lns_err h1
   exact ⟨x, s, q, by omega, a2, a3, a4⟩
  ·rcases h2 : lnE s1 (y + 1) (Ip.tg ls y) with ⟨e2, p2⟩ | s2
   ·rw [lns_S, h1] at h
    simp only [h2] at h
    cases h
    exact ⟨y, s1, p2, by omega, rfl, h1, h2⟩
   ·rw [lns_S, h1] at h
    simp only [h2] at h
    cases h
theorem lns_pre {ls : List ByteArray} {s : PS} : ∀ {y : Nat}, lnsE ls y = .ok s → ∀ x, x ≤ y → ∃ s', lnsE ls x = .ok s'
 | 0, h, x, hx => ⟨s, by rw [show x = 0 by omega]; exact h⟩
 | y + 1, h, x, hx => by
  by_cases hxy : x = y + 1
  ·exact ⟨s, by rw [hxy]; exact h⟩
  ·rcases h1 : lnsE ls y with e1 | s1
   ·rw [lns_S, h1] at h; cases h
   ·exact lns_pre h1 x (by omega)
theorem lsE_ne {chk : ByteArray → Int} {fin : ByteArray} {u : Nat → ByteArray} {e : Int} {p : Nat} : ∀ {f j : Nat}, lsE chk fin u f j = .error (e, p) → e ≠ 0
 | 0, j, h => by cases h; decide
 | f + 1, j, h => by
  unfold lsE at h
  split at h
  ·cases h
  ·split at h
   ·cases h; decide
   ·split at h
    ·rename_i hc
     cases h
     exact hc
    ·split at h
     ·exact lsE_ne h
     ·cases h; decide
theorem nnE_er {tl : ByteArray → Bool} {n : Nat} {u : Nat → ByteArray} {e : Int} {p : Nat} (h : nnE tl n u = .error (e, p)) : e ≠ 0 := by
 unfold nnE at h
 repeat' split at h
 all_goals (cases h; try decide)
theorem bnd_er {α β : Type} {a : Nat} {r : Rd1 α} {k : α → Rd1 β} {e : Int} {p : Nat} (h : bnd a r k = .error (e, p)) (h1 : ∀ e p, r = .error (e, p) → e ≠ 0) (h2 : ∀ x e p, k x = .error (e, p) → e ≠ 0) : e ≠ 0 := by
 rcases r with ⟨e1, p1⟩ | x
 ·cases h
  exact h1 _ _ rfl
 ·exact h2 x _ _ h
theorem grE_er {G T : List Nam} {H : List Hst} {n a : Nat} {w r : ByteArray} {e : Int} {p : Nat} (h : grE G T H n a w r = .error (e, p)) : e ≠ 0 :=
 bnd_er h (fun _ _ => nnE_er) fun _ _ _ h => bnd_er h (fun _ _ => lsE_ne) fun _ _ _ h => by cases h
theorem tgE_er {G T : List Nam} {H : List Hst} {n a : Nat} {w r : ByteArray} {e : Int} {p : Nat} (h : tgE G T H n a w r = .error (e, p)) : e ≠ 0 :=
 bnd_er h (fun _ _ => nnE_er) fun _ _ _ h => bnd_er h (fun _ _ => lsE_ne) fun _ _ _ h => by cases h
theorem hsE_er {G T : List Nam} {H : List Hst} {n a : Nat} {w r : ByteArray} {e : Int} {p : Nat} (h : hsE G T H n a w r = .error (e, p)) : e ≠ 0 :=
 bnd_er h (fun _ _ => nnE_er) fun _ _ _ h => by
  repeat' split at h
  all_goals (cases h; try decide)
theorem acE_er {A : List Acl} {M : List Men} {n a : Nat} {w r : ByteArray} {e : Int} {p : Nat} (h : acE A M n a w r = .error (e, p)) : e ≠ 0 := by
 unfold acE at h
 split at h
 ·split at h
  ·cases h; decide
  ·split at h
   ·split at h
    ·refine bnd_er h (fun _ _ => lsE_ne) fun _ _ _ h => ?_
     split at h
     ·refine bnd_er h (fun _ _ => lsE_ne) fun _ _ _ h => ?_
      split at h
      ·cases h
      ·split at h
       ·exact bnd_er h (fun _ _ => lsE_ne) fun _ _ _ h => by cases h
       ·cases h; decide
     ·cases h; decide
    ·cases h; decide
   ·cases h; decide
 ·cases h; decide
theorem finE_er {w : ByteArray} {s : PS} {e : Int} {p : Nat} (h : finE w s = .error (e, p)) : e ≠ 0 := by
 unfold finE at h
 split at h
 ·cases h
 ·cases h; decide
theorem lnE_er {s : PS} {n : Nat} {l : ByteArray} {e : Int} {p : Nat} (h : lnE s n l = .error (e, p)) : e ≠ 0 := by
 rw [lnE_eq] at h
 split at h
 ·cases h
 ·split at h
  ·split at h
   ·rename_i h1
    cases h
    exact grE_er h1
   ·exact finE_er h
  ·split at h
   ·split at h
    ·rename_i h1
     cases h
     exact tgE_er h1
    ·exact finE_er h
   ·split at h
    ·split at h
     ·rename_i h1
      cases h
      exact hsE_er h1
     ·exact finE_er h
    ·split at h
     ·split at h
      ·rename_i h1
       cases h
       exact acE_er h1
      ·exact finE_er h
     ·cases h; decide
end Go.Proofs.YtbdgncndhnnjoaaGreatDoor

namespace Go.Proofs.YtbdgncndhnnjoaaGreatDoor
open Go.RowKit YtbdgncndhnnjoaaGreatDoor
set_option linter.unusedVariables false
set_option linter.unusedSimpArgs false
set_option maxHeartbeats 0
set_option maxRecDepth 100000
theorem mens_mem {l : List Men} {n a : Nat} {w r : ByteArray} {m : Men} : ∀ {j : Nat}, m ∈ mens l n a w r j → m ∈ l ∨ (m.e = 196 ∧ m.line = (n : Int))
 | 0, h => .inl h
 | j + 1, h => by
  rcases List.mem_append.1 h with h | h
  ·exact mens_mem h
  ·rw [List.mem_singleton] at h
   subst h
   exact .inr ⟨rfl, rfl⟩
theorem acE_M {A : List Acl} {M : List Men} {n a : Nat} {w r : ByteArray} {y : AY} (h : acE A M n a w r = .ok y) {m : Men} (hm : m ∈ y.M) : m ∈ M ∨ (m.e = 196 ∧ m.line = (n : Int)) := by
 unfold acE at h
 split at h
 ·split at h
  ·cases h
  ·split at h
   ·split at h
    ·obtain ⟨j, h2, h⟩ := bnd_ok h
     split at h
     ·obtain ⟨k, h3, h⟩ := bnd_ok h
      split at h
      ·cases h
       rcases mens_mem hm with h | h
       ·exact mens_mem h
       ·exact .inr h
      ·split at h
       ·obtain ⟨q, h4, h⟩ := bnd_ok h
        cases h
        rcases mens_mem hm with h | h
        ·exact mens_mem h
        ·exact .inr h
       ·cases h
     ·cases h
    ·cases h
   ·cases h
 ·cases h
theorem lnE_M {s s' : PS} {n : Nat} {l : ByteArray} (h : lnE s n l = .ok s') {m : Men} (hm : m ∈ s'.M) : m ∈ s.M ∨ (m.e = 196 ∧ m.line = (n : Int)) := by
 rw [lnE_eq] at h
 split at h
 ·cases h
  exact .inl hm
 ·split at h
  ·split at h
   ·cases h
   ·rw [finE_ok h] at hm
    exact .inl hm
  ·split at h
   ·split at h
    ·cases h
    ·rw [finE_ok h] at hm
     exact .inl hm
   ·split at h
    ·split at h
     ·cases h
     ·rw [finE_ok h] at hm
      exact .inl hm
    ·split at h
     ·split at h
      ·cases h
      ·rename_i y hy
       rw [finE_ok h] at hm
       exact acE_M hy hm
     ·cases h
theorem lns_M {ls : List ByteArray} : ∀ {x : Nat} {s : PS}, lnsE ls x = .ok s → ∀ m ∈ s.M, m.e = 196 ∧ ∃ k : Nat, m.line = ((k + 1 : Nat) : Int) ∧ k < x
 | 0, s, h, m, hm => by cases h; cases hm
 | x + 1, s, h, m, hm => by
  rcases h1 : lnsE ls x with e | s1
  ·rw [lns_S, h1] at h; cases h
  ·rcases h2 : lnE s1 (x + 1) (Ip.tg ls x) with ⟨e, p⟩ | s2
   ·rw [lns_S, h1] at h
    simp only [h2] at h
    cases h
   ·rw [lns_S, h1] at h
    simp only [h2] at h
    cases h
    rcases lnE_M h2 hm with h | h
    ·obtain ⟨a1, k, a2, a3⟩ := lns_M h1 m h
     exact ⟨a1, k, a2, by omega⟩
    ·exact ⟨h.1, x, h.2, by omega⟩
theorem prA_err {t : ByteArray} {e n p : Int} (h : prA t = .error (e, n, p)) : e ≠ 0 ∧ ∃ k : Nat, n = ((k + 1 : Nat) : Int) ∧ k < (Ip.spl t nlB).length ∧ ∃ s, lnsE (Ip.spl t nlB) k = .ok s := by
 unfold prA at h
 rcases h1 : lnsE (Ip.spl t nlB) (Ip.spl t nlB).length with e1 | s1
 ·rw [h1] at h
  have h : (Except.error e1 : Except (Int × Int × Int) PS) = .error (e, n, p) := h
  cases h
  obtain ⟨x, s, q, a1, a2, a3, a4⟩ := lns_err h1
  exact ⟨lnE_er a4, x, a2, a1, s, a3⟩
 ·rw [h1] at h
  have h : (match s1.M.find? (fun m => !mtl s1.G s1.T s1.H m) with | none => Except.ok s1 | some m => .error (m.e, m.line, m.at_)) = Except.error (e, n, p) := h
  cases hf : s1.M.find? (fun m => !mtl s1.G s1.T s1.H m) with
  | none => rw [hf] at h; cases h
  | some m =>
   rw [hf] at h
   cases h
   obtain ⟨a1, k, a2, a3⟩ := lns_M h1 m (List.mem_of_find?_eq_some hf)
   obtain ⟨s, hs⟩ := lns_pre h1 k (by omega)
   exact ⟨by rw [a1]; decide, k, a2, a3, s, hs⟩
theorem prA_last {t : ByteArray} {k : Nat} {s : PS} (hl : (Ip.spl t nlB).length = k + 1) (h : lnsE (Ip.spl t nlB) k = .ok s) (he : Ip.tg (Ip.spl t nlB) k = ⟨#[]⟩) : (∃ s2, prA t = .ok s2) ∨ ∃ n p, prA t = .error (196, n, p) := by
 have hw : (wdF ⟨#[]⟩).size = 0 := Nat.le_zero.1 (wdF_le ⟨#[]⟩)
 have h2 : lnE s (k + 1) (Ip.tg (Ip.spl t nlB) k) = .ok ⟨s.G, s.T, s.H, s.A, s.M, 0⟩ := by rw [he, lnE_eq, if_pos hw]
 have h3 : lnsE (Ip.spl t nlB) (k + 1) = .ok ⟨s.G, s.T, s.H, s.A, s.M, 0⟩ := lns_ok h h2
 unfold prA
 rw [hl, h3]
 show (∃ s2, (match s.M.find? (fun m => !mtl s.G s.T s.H m) with | none => Except.ok _ | some m => Except.error (m.e, m.line, m.at_)) = Except.ok s2) ∨ ∃ n p, (match s.M.find? (fun m => !mtl s.G s.T s.H m) with | none => Except.ok _ | some m => Except.error (m.e, m.line, m.at_)) = Except.error (196, n, p)
 cases hf : s.M.find? (fun m => !mtl s.G s.T s.H m) with
 | none => exact .inl ⟨_, rfl⟩
 | some m =>
  obtain ⟨a1, -⟩ := lns_M h3 m (List.mem_of_find?_eq_some hf)
  exact .inr ⟨m.line, m.at_, by show Except.error (m.e, m.line, m.at_) = _; rw [a1]⟩
theorem places {s : ByteArray} {k at_ : Nat} {st : PS} (h : lnsE (Ip.spl s nlB) k = .ok st) (hc : (s.data.toList.take at_).count 10 = k) (ha : at_ ≤ s.size) (hl : at_ = 0 ∨ s.data.toList[at_ - 1]? = some 10) : (∃ s2, prA (s.extract 0 at_) = .ok s2) ∨ ∃ n p, prA (s.extract 0 at_) = .error (196, n, p) := by
 have hd : (s.extract 0 at_).data.toList = s.data.toList.take at_ := Lib.extract_from_zero s at_
 by_cases h0 : at_ = 0
 ·subst h0
  have ht : (s.extract 0 0).data.toList = [] := by rw [hd]; rfl
  exact prA_last (k := 0) (s := ps0) (by rw [spl_length, ht]; rfl) rfl (ba_ext (tg_data _ 0 [] (by rw [ht]; rfl)))
 ·have hl := hl.resolve_left h0
  obtain ⟨hlt, hx⟩ := List.getElem?_eq_some_iff.1 hl
  have hs : s.data.toList = s.data.toList.take (at_ - 1) ++ 10 :: s.data.toList.drop at_ := by
   have h1 := List.take_append_drop (at_ - 1) s.data.toList
   have h2 : s.data.toList.drop (at_ - 1) = s.data.toList[at_ - 1] :: s.data.toList.drop (at_ - 1 + 1) := List.drop_eq_getElem_cons hlt
   rw [hx, show at_ - 1 + 1 = at_ by omega] at h2
   rw [← h2, h1]
  have ht : s.data.toList.take at_ = s.data.toList.take (at_ - 1) ++ 10 :: [] := by
   have h3 := List.take_add_one (l := s.data.toList) (i := at_ - 1)
   rw [show at_ - 1 + 1 = at_ by omega, hl] at h3
   exact h3
  have hk : (lnL (s.data.toList.take (at_ - 1))).length = k := by
   rw [lnL_len]
   rw [ht] at hc
   simpa using hc
  obtain ⟨a1, a2, a3⟩ := tg_take hs (hd.trans ht)
  rw [hk] at a1 a2 a3
  exact prA_last a3 (by rw [lns_congr a1]; exact h) a2
end Go.Proofs.YtbdgncndhnnjoaaGreatDoor

namespace Go.Proofs.YtbdgncndhnnjoaaGreatDoor
open Go.RowKit YtbdgncndhnnjoaaGreatDoor
set_option linter.unusedVariables false
set_option linter.unusedSimpArgs false
set_option maxHeartbeats 0
set_option maxRecDepth 100000
def bkB (b : UInt8) : Bool := b = 32 || b = 9
def skL (l : List UInt8) : List UInt8 := if (l.dropWhile bkB).head? = some 35 then [] else l.dropWhile bkB
def wdL (l : List UInt8) : List UInt8 := (skL l).takeWhile (fun b => !bkB b)
def rsL (l : List UInt8) : List UInt8 := (skL l).dropWhile (fun b => !bkB b)
theorem trim_L (s : ByteArray) : (trimF s).data.toList = s.data.toList.dropWhile bkB := by
 unfold trimF Lib.trimLeftS
 show List.dropWhile _ _ = _
 congr 1
 funext b
 simp [bkB, List.contains_cons]
theorem hp_L (s : ByteArray) : hpF s ⟨#[35]⟩ = decide (s.data.toList.head? = some 35) := by
 unfold hpF
 rcases s with ⟨⟨l⟩⟩
 rcases l with _ | ⟨a, l⟩
 ·rfl
 ·have hs : ((⟨#[35]⟩ : ByteArray).size : Int) ≤ (((⟨⟨a :: l⟩⟩ : ByteArray)).size : Int) := by
   show (1 : Int) ≤ (((⟨a :: l⟩ : Array UInt8)).size : Int)
   simp
   omega
  rw [if_pos hs]
  have : ((⟨⟨a :: l⟩⟩ : ByteArray).extract 0 (⟨#[35]⟩ : ByteArray).size) = ⟨#[a]⟩ := by
   refine ba_ext ?_
   rw [ByteArray.data_extract]
   show ((⟨a :: l⟩ : Array UInt8).extract 0 1).toList = _
   simp
  rw [this]
  by_cases h : a = 35
  ·subst h
   simp
  ·have h2 : ¬ ((⟨#[a]⟩ : ByteArray) = ⟨#[35]⟩) := fun e => h (by
    have := congrArg (fun x : ByteArray => x.data.toList) e
    simpa using this)
   simp [h, h2]
theorem sk_L (s : ByteArray) : (skF s).data.toList = skL s.data.toList := by
 unfold skF skL
 rw [hp_L, trim_L]
 by_cases h : (List.dropWhile bkB s.data.toList).head? = some 35
 ·rw [if_pos h, if_pos (by simpa using h)]
 ·rw [if_neg h, if_neg (by simpa using h), trim_L]
theorem take_tw (p : UInt8 → Bool) : ∀ l : List UInt8, (match l.findIdx? p with | some i => l.take i | none => l) = l.takeWhile (fun b => !p b)
 | [] => rfl
 | a :: l => by
  have ih := take_tw p l
  rw [List.findIdx?_cons]
  cases h : p a
  ·rw [List.takeWhile_cons_of_pos (by simp [h])]
   rw [← ih]
   cases l.findIdx? p <;> simp
  ·rw [List.takeWhile_cons_of_neg (by simp [h])]
   simp
theorem drop_tw (p : UInt8 → Bool) : ∀ l : List UInt8, l.drop (l.takeWhile p).length = l.dropWhile p
 | [] => rfl
 | a :: l => by
  cases h : p a
  ·rw [List.takeWhile_cons_of_neg (by simp [h]), List.dropWhile_cons_of_neg (by simp [h])]
   rfl
  ·rw [List.takeWhile_cons_of_pos (by simp [h]), List.dropWhile_cons_of_pos (by simp [h])]
   simpa using drop_tw p l
theorem wd1_L (s : ByteArray) : (wd1 s).data.toList = wdL s.data.toList := by
 unfold wd1 wdL
 have e := take_tw bkB (skL s.data.toList)
 have h : ixN (skF s) = (skL s.data.toList).findIdx? bkB := by
  rw [← sk_L]
  rfl
 rw [h]
 rw [← e]
 cases hh : (skL s.data.toList).findIdx? bkB with
 | none => exact sk_L s
 | some i =>
  show ((skF s).extract 0 i).data.toList = _
  rw [ByteArray.data_extract, Array.toList_extract, sk_L]
  simp
theorem rs1_L (s : ByteArray) : (rs1 s).data.toList = rsL s.data.toList := by
 unfold rs1 rsL
 rw [ByteArray.data_extract, Array.toList_extract, sk_L]
 have h1 : (wd1 s).size = ((skL s.data.toList).takeWhile (fun b => !bkB b)).length := by
  have := congrArg List.length (wd1_L s)
  rw [← show (wd1 s).data.toList.length = (wd1 s).size by show _ = (wd1 s).data.size; simp]
  exact this
 have h2 : (skF s).size = (skL s.data.toList).length := by
  rw [← sk_L]
  show (skF s).data.size = _
  simp
 rw [h1, h2, ← drop_tw]
 show List.take _ _ = _
 rw [List.take_of_length_le (by rw [List.length_drop]; exact Nat.le_refl _)]
def bk (l : List UInt8) : List UInt8 := l.flatMap fun c => if c = 32 then [32, 9, 32] else [c]
theorem bk_cons (c : UInt8) (l : List UInt8) : bk (c :: l) = (if c = 32 then [32, 9, 32] else [c]) ++ bk l := rfl
structure Suf (s : List UInt8) : Prop where
 sk : skL s = []
 hd : ∀ c x, s = c :: x → bkB c = true
theorem bk_drop (suf : List UInt8) : ∀ l : List UInt8, (bk l ++ suf).dropWhile bkB = match l.dropWhile bkB with | [] => suf.dropWhile bkB | c :: x => bk (c :: x) ++ suf
 | [] => rfl
 | c :: l => by
  have ih := bk_drop suf l
  rw [bk_cons]
  by_cases h : c = 32
  ·subst h
   rw [if_pos rfl, List.dropWhile_cons_of_pos (by decide)]
   exact ih
  ·rw [if_neg h]
   by_cases h2 : bkB c = true
   ·rw [List.dropWhile_cons_of_pos h2]
    show List.dropWhile bkB (c :: (bk l ++ suf)) = _
    rw [List.dropWhile_cons_of_pos h2]
    exact ih
   ·rw [List.dropWhile_cons_of_neg h2]
    show List.dropWhile bkB (c :: (bk l ++ suf)) = bk (c :: l) ++ suf
    rw [List.dropWhile_cons_of_neg h2, bk_cons, if_neg h]
    rfl
theorem bk_tw {suf : List UInt8} (hs : ∀ c x, suf = c :: x → bkB c = true) : ∀ l : List UInt8, (bk l ++ suf).takeWhile (fun b => !bkB b) = l.takeWhile (fun b => !bkB b) ∧ (bk l ++ suf).dropWhile (fun b => !bkB b) = bk (l.dropWhile (fun b => !bkB b)) ++ suf
 | [] => by
  show (suf.takeWhile _ = [] ∧ suf.dropWhile _ = suf)
  rcases suf with _ | ⟨c, x⟩
  ·exact ⟨rfl, rfl⟩
  ·have := hs c x rfl
   exact ⟨List.takeWhile_cons_of_neg (by simp [this]), List.dropWhile_cons_of_neg (by simp [this])⟩
 | c :: l => by
  have ih := bk_tw hs l
  rw [bk_cons]
  by_cases h : c = 32
  ·subst h
   rw [if_pos rfl, List.takeWhile_cons_of_neg (by decide), List.dropWhile_cons_of_neg (by decide)]
   refine ⟨?_, ?_⟩
   ·show List.takeWhile _ (32 :: ([9, 32] ++ bk l ++ suf)) = _
    rw [List.takeWhile_cons_of_neg (by decide)]
   ·show List.dropWhile _ (32 :: ([9, 32] ++ bk l ++ suf)) = _
    rw [List.dropWhile_cons_of_neg (by decide)]
    rfl
  ·rw [if_neg h]
   show List.takeWhile _ (c :: (bk l ++ suf)) = _ ∧ List.dropWhile _ (c :: (bk l ++ suf)) = _
   by_cases h2 : bkB c = true
   ·rw [List.takeWhile_cons_of_neg (by simp [h2]), List.takeWhile_cons_of_neg (by simp [h2]), List.dropWhile_cons_of_neg (by simp [h2]), List.dropWhile_cons_of_neg (by simp [h2]), bk_cons, if_neg h]
    exact ⟨rfl, rfl⟩
   ·rw [List.takeWhile_cons_of_pos (by simp [h2]), List.takeWhile_cons_of_pos (by simp [h2]), List.dropWhile_cons_of_pos (by simp [h2]), List.dropWhile_cons_of_pos (by simp [h2]), ih.1, ih.2]
    exact ⟨rfl, rfl⟩
def Qw (suf l l' : List UInt8) : Prop := (l = [] ∧ l' = []) ∨ l' = bk l ++ suf
theorem dw_head {p : UInt8 → Bool} : ∀ {l x : List UInt8} {c : UInt8}, l.dropWhile p = c :: x → p c = false
 | [], x, c, h => by cases h
 | a :: l, x, c, h => by
  cases hp : p a
  ·rw [List.dropWhile_cons_of_neg (by simp [hp])] at h
   cases h
   exact hp
  ·rw [List.dropWhile_cons_of_pos hp] at h
   exact dw_head h
theorem Qw.sk {suf l l' : List UInt8} (h : Qw suf l l') (hs : Suf suf) : (skL l = [] ∧ skL l' = []) ∨ (skL l' = bk (skL l) ++ suf) := by
 rcases h with ⟨rfl, rfl⟩ | rfl
 ·exact .inl ⟨rfl, rfl⟩
 ·have e := bk_drop suf l
  cases h : l.dropWhile bkB with
  | nil =>
   rw [h] at e
   refine .inl ⟨by unfold skL; rw [h]; rfl, ?_⟩
   have := hs.sk
   unfold skL at this ⊢
   rw [e]
   exact this
  | cons c x =>
   rw [h] at e
   have hc : bkB c = false := dw_head h
   have hc2 : c ≠ 32 := fun e => by subst e; cases hc
   have e3 : bk (c :: x) ++ suf = c :: (bk x ++ suf) := by rw [bk_cons, if_neg hc2]; rfl
   have e4 : (bk l ++ suf).dropWhile bkB = c :: (bk x ++ suf) := e.trans e3
   unfold skL
   rw [e4, h]
   by_cases h35 : c = 35
   ·subst h35
    exact .inl ⟨rfl, rfl⟩
   ·refine .inr ?_
    rw [if_neg (by simpa using h35), if_neg (by simpa using h35), e3]
theorem Qw.step {suf l l' : List UInt8} (h : Qw suf l l') (hs : Suf suf) : wdL l' = wdL l ∧ Qw suf (rsL l) (rsL l') := by
 unfold wdL rsL
 rcases h.sk hs with ⟨e1, e2⟩ | e
 ·rw [e1, e2]
  exact ⟨rfl, .inl ⟨rfl, rfl⟩⟩
 ·rw [e]
  exact ⟨(bk_tw hs.hd _).1, .inr (bk_tw hs.hd _).2⟩
theorem suf0 : Suf [] := ⟨rfl, fun c x h => by cases h⟩
theorem suf1 : Suf [32, 35, 32, 97, 99, 99, 101, 112, 116, 32, 97, 110, 121] := ⟨rfl, fun c x h => by cases h; rfl⟩
theorem suf2 : Suf [32, 32] := ⟨rfl, fun c x h => by cases h; rfl⟩
end Go.Proofs.YtbdgncndhnnjoaaGreatDoor

namespace Go.Proofs.YtbdgncndhnnjoaaGreatDoor
open Go.RowKit YtbdgncndhnnjoaaGreatDoor
set_option linter.unusedVariables false
set_option linter.unusedSimpArgs false
set_option maxHeartbeats 0
set_option maxRecDepth 100000
def Eqw (r r' : ByteArray) : Prop := ∀ j, wdF (rst r j) = wdF (rst r' j)
theorem rst_ad2 (r : ByteArray) (i : Nat) : ∀ j, rst (rst r i) j = rst r (i + j)
 | 0 => rfl
 | j + 1 => by
  show rsF (rst (rst r i) j) = rsF (rst r (i + j))
  rw [rst_ad2 r i j]
theorem Eqw.st {r r' : ByteArray} (h : Eqw r r') (i : Nat) : Eqw (rst r i) (rst r' i) := fun j => by
 rw [rst_ad2, rst_ad2]
 exact h (i + j)
theorem Eqw.rs {r r' : ByteArray} (h : Eqw r r') : Eqw (rsF r) (rsF r') := h.st 1
theorem Eqw.wd {r r' : ByteArray} (h : Eqw r r') : wdF r' = wdF r := (h 0).symm
theorem Eqw.wr {r r' : ByteArray} (h : Eqw r r') (w : ByteArray) : wrd w r' = wrd w r := by
 funext j
 rcases j with _ | j
 ·rfl
 ·exact (h j).symm
theorem wrds_w {r r' : ByteArray} (w : ByteArray) (h : wrd w r' = wrd w r) : wrds w r' = wrds w r := by
 funext j
 induction j with
 | zero => rfl
 | succ j ih =>
  show wrds w r' j ++ [wrd w r' j] = wrds w r j ++ [wrd w r j]
  rw [ih, h]
theorem sels_w {r r' : ByteArray} (w : ByteArray) (h : wrd w r' = wrd w r) : sels w r' = sels w r := by
 funext j
 induction j with
 | zero => rfl
 | succ j ih =>
  simp only [sels]
  rw [ih, h]
theorem prts_w {r r' : ByteArray} (w : ByteArray) (h : wrd w r' = wrd w r) : prts w r' = prts w r := by
 funext j
 induction j with
 | zero => rfl
 | succ j ih =>
  simp only [prts]
  rw [ih, h]
def mesl (w r : ByteArray) : Nat → List Sel
 | 0 => []
 | j + 1 => mesl w r j ++ [selF (wrd w r j)]
theorem mesl_w {r r' : ByteArray} (w : ByteArray) (h : wrd w r' = wrd w r) : mesl w r' = mesl w r := by
 funext j
 induction j with
 | zero => rfl
 | succ j ih =>
  simp only [mesl]
  rw [ih, h]
theorem mens_sel (l : List Men) (n a : Nat) (w r : ByteArray) : ∀ j, (mens l n a w r j).map (·.sel) = l.map (·.sel) ++ mesl w r j
 | 0 => by simp [mens, mesl]
 | j + 1 => by
  simp only [mens, mesl, List.map_append, mens_sel l n a w r j]
  simp
theorem Eqw.wrds {r r' : ByteArray} (h : Eqw r r') (w : ByteArray) : Go.Proofs.YtbdgncndhnnjoaaGreatDoor.wrds w r' = Go.Proofs.YtbdgncndhnnjoaaGreatDoor.wrds w r := wrds_w w (h.wr w)
theorem Eqw.sels {r r' : ByteArray} (h : Eqw r r') (w : ByteArray) : Go.Proofs.YtbdgncndhnnjoaaGreatDoor.sels w r' = Go.Proofs.YtbdgncndhnnjoaaGreatDoor.sels w r := sels_w w (h.wr w)
theorem Eqw.prts {r r' : ByteArray} (h : Eqw r r') (w : ByteArray) : Go.Proofs.YtbdgncndhnnjoaaGreatDoor.prts w r' = Go.Proofs.YtbdgncndhnnjoaaGreatDoor.prts w r := prts_w w (h.wr w)
theorem Eqw.mesl {r r' : ByteArray} (h : Eqw r r') (w : ByteArray) : Go.Proofs.YtbdgncndhnnjoaaGreatDoor.mesl w r' = Go.Proofs.YtbdgncndhnnjoaaGreatDoor.mesl w r := mesl_w w (h.wr w)
def rmX {α β : Type} (f : α → β) (r : Rd1 α) : Rd1 β := match r with
 | .ok x => .ok (f x)
 | .error e => .error e
theorem rmX_bnd {α β γ : Type} (f : β → γ) (a : Nat) (r : Rd1 α) (k : α → Rd1 β) : rmX f (bnd a r k) = bnd a r fun x => rmX f (k x) := by
 rcases r with ⟨e, p⟩ | x <;> rfl
theorem rmX_ite {β γ : Type} (f : β → γ) (c : Prop) [Decidable c] (a b : Rd1 β) : rmX f (if c then a else b) = if c then rmX f a else rmX f b := by
 by_cases h : c
 ·rw [if_pos h, if_pos h]
 ·rw [if_neg h, if_neg h]
theorem rmX_ok {β γ : Type} (f : β → γ) (x : β) : rmX f (Except.ok x) = .ok (f x) := rfl
theorem rmX_er {β γ : Type} (f : β → γ) (e : Int × Nat) : rmX f (Except.error e) = .error e := rfl
def nyQ {α : Type} (y : NY α) : List α × Nat × ByteArray := (y.L, y.q, y.w)
def ayQ (y : AY) : List Acl × List Sel × Nat × ByteArray := (y.A, y.M.map (·.sel), y.q, y.w)
theorem grE_w (G T : List Nam) (H : List Hst) (n n' a : Nat) (w : ByteArray) {r r' : ByteArray} (h : Eqw r r') : rmX nyQ (grE G T H n' a w r') = rmX nyQ (grE G T H n a w r) := by
 simp only [grE, rmX_bnd, rmX_ok, nyQ, h.wr w, (h.st 3).wr, (h.st 3).wrds]
theorem tgE_w (G T : List Nam) (H : List Hst) (n n' a : Nat) (w : ByteArray) {r r' : ByteArray} (h : Eqw r r') : rmX nyQ (tgE G T H n' a w r') = rmX nyQ (tgE G T H n a w r) := by
 simp only [tgE, rmX_bnd, rmX_ok, nyQ, h.wr w, (h.st 3).wr, (h.st 3).wrds]
theorem hsE_w (G T : List Nam) (H : List Hst) (n n' a : Nat) (w : ByteArray) {r r' : ByteArray} (h : Eqw r r') : rmX nyQ (hsE G T H n' a w r') = rmX nyQ (hsE G T H n a w r) := by
 simp only [hsE, rmX_bnd, rmX_ite, rmX_ok, rmX_er, nyQ, h.wr w]
theorem acE_w (A : List Acl) (M M' : List Men) (hM : M'.map (·.sel) = M.map (·.sel)) (n n' a : Nat) (w : ByteArray) {r r' : ByteArray} (h : Eqw r r') : rmX ayQ (acE A M' n' a w r') = rmX ayQ (acE A M n a w r) := by
 have h3 := h.rs.rs.rs
 have h4 := fun j => h3.st j
 have h5 := fun j => (h4 j).rs
 have h6 := fun j k => (h5 j).st k
 have h7 := fun j k => (h6 j k).rs
 simp only [acE, rmX_bnd, rmX_ite, rmX_ok, rmX_er, ayQ, mens_sel, hM, h.wd, h.rs.wd, h.rs.rs.wd, h3.wr, h3.sels, h3.mesl, (h4 _).wd, (h5 _).wr, (h5 _).sels, (h5 _).mesl, (h6 _ _).wd, (h7 _ _).wr, (h7 _ _).prts]
def psQ (s : PS) : List Nam × List Nam × List Hst × List Acl × List Sel := (s.G, s.T, s.H, s.A, s.M.map (·.sel))
theorem rmX_inv {α β : Type} {f : α → β} {x y : Rd1 α} (h : rmX f y = rmX f x) {a : α} (hx : x = .ok a) : ∃ b, y = .ok b ∧ f b = f a := by
 subst hx
 rcases y with e | b
 ·cases h
 ·exact ⟨b, rfl, by simpa [rmX] using h⟩
theorem finE_w {w : ByteArray} {s s' : PS} (h : finE w s = .ok s') : w.size = 0 ∧ s' = s := by
 unfold finE at h
 split at h
 ·cases h
  exact ⟨by assumption, rfl⟩
 ·cases h
theorem lnE_w {s t s1 : PS} (hs : psQ t = psQ s) (n n' : Nat) {l l' : ByteArray} (h : Eqw l l') (h1 : lnE s n l = .ok s1) : ∃ t1, lnE t n' l' = .ok t1 ∧ psQ t1 = psQ s1 := by
 rcases s with ⟨G, T, H, A, M, q⟩
 rcases t with ⟨G', T', H', A', M', q'⟩
 simp only [psQ, Prod.mk.injEq] at hs
 obtain ⟨rfl, rfl, rfl, rfl, hM⟩ := hs
 unfold lnE at h1 ⊢
 simp only [h.wd] at h1 ⊢
 split at h1
 ·rename_i c0
  rw [if_pos c0]
  cases h1
  exact ⟨_, rfl, by simp [psQ, hM]⟩
 ·rename_i c0
  rw [if_neg c0]
  split at h1
  ·rename_i c1
   rw [if_pos c1]
   have e := grE_w G' T' H' n n' 0 (wdF l) h.rs
   cases hx : grE G' T' H' n 0 (wdF l) (rsF l) with
   | error x => rw [hx] at h1; cases h1
   | ok y =>
    rw [hx] at h1
    obtain ⟨z, hz, hq⟩ := rmX_inv e hx
    simp only [nyQ, Prod.mk.injEq] at hq
    obtain ⟨q1, q2, q3⟩ := hq
    obtain ⟨c3, rfl⟩ := finE_w h1
    rw [hz]
    show ∃ t1, finE z.w _ = _ ∧ _
    unfold finE
    rw [if_pos (by rw [q3]; exact c3)]
    exact ⟨_, rfl, by simp [psQ, hM, q1]⟩
  ·rename_i c1
   rw [if_neg c1]
   split at h1
   ·rename_i c2
    rw [if_pos c2]
    have e := tgE_w G' T' H' n n' 0 (wdF l) h.rs
    cases hx : tgE G' T' H' n 0 (wdF l) (rsF l) with
    | error x => rw [hx] at h1; cases h1
    | ok y =>
     rw [hx] at h1
     obtain ⟨z, hz, hq⟩ := rmX_inv e hx
     simp only [nyQ, Prod.mk.injEq] at hq
     obtain ⟨q1, q2, q3⟩ := hq
     obtain ⟨c3, rfl⟩ := finE_w h1
     rw [hz]
     show ∃ t1, finE z.w _ = _ ∧ _
     unfold finE
     rw [if_pos (by rw [q3]; exact c3)]
     exact ⟨_, rfl, by simp [psQ, hM, q1]⟩
   ·rename_i c2
    rw [if_neg c2]
    split at h1
    ·rename_i c3
     rw [if_pos c3]
     have e := hsE_w G' T' H' n n' 0 (wdF l) h.rs
     cases hx : hsE G' T' H' n 0 (wdF l) (rsF l) with
     | error x => rw [hx] at h1; cases h1
     | ok y =>
      rw [hx] at h1
      obtain ⟨z, hz, hq⟩ := rmX_inv e hx
      simp only [nyQ, Prod.mk.injEq] at hq
      obtain ⟨q1, q2, q3⟩ := hq
      obtain ⟨c3, rfl⟩ := finE_w h1
      rw [hz]
      show ∃ t1, finE z.w _ = _ ∧ _
      unfold finE
      rw [if_pos (by rw [q3]; exact c3)]
      exact ⟨_, rfl, by simp [psQ, hM, q1]⟩
    ·rename_i c3
     rw [if_neg c3]
     split at h1
     ·rename_i c4
      rw [if_pos c4]
      have e := acE_w A' M M' hM n n' 0 (wdF l) h.rs
      cases hx : acE A' M n 0 (wdF l) (rsF l) with
      | error x => rw [hx] at h1; cases h1
      | ok y =>
       rw [hx] at h1
       obtain ⟨z, hz, hq⟩ := rmX_inv e hx
       simp only [ayQ, Prod.mk.injEq] at hq
       obtain ⟨q1, q2, q3, q4⟩ := hq
       obtain ⟨c3, rfl⟩ := finE_w h1
       rw [hz]
       show ∃ t1, finE z.w _ = _ ∧ _
       unfold finE
       rw [if_pos (by rw [q4]; exact c3)]
       exact ⟨_, rfl, by simp [psQ, q1, q2]⟩
     ·cases h1
theorem lnE_none {s : PS} (n : Nat) {l : ByteArray} (h : (wdF l).size = 0) : ∃ t, lnE s n l = .ok t ∧ psQ t = psQ s := by
 unfold lnE
 rw [if_pos h]
 exact ⟨_, rfl, rfl⟩
end Go.Proofs.YtbdgncndhnnjoaaGreatDoor

namespace Go.Proofs.YtbdgncndhnnjoaaGreatDoor
open Go.RowKit YtbdgncndhnnjoaaGreatDoor
set_option linter.unusedVariables false
set_option linter.unusedSimpArgs false
set_option maxHeartbeats 0
set_option maxRecDepth 100000
theorem wdF_1 {r : ByteArray} (h : r.size ≤ 100000) : wdF r = wd1 r := by
 unfold wdF
 rw [seal_eq, clp_eq h]
theorem rsF_1 {r : ByteArray} (h : r.size ≤ 100000) : rsF r = rs1 r := by
 unfold rsF
 rw [seal_eq, clp_eq h]
theorem eqw_st {suf : List UInt8} (hs : Suf suf) {r r' : ByteArray} (h : Qw suf r.data.toList r'.data.toList) (h1 : r.size ≤ 100000) (h2 : r'.size ≤ 100000) : ∀ j, Qw suf (rst r j).data.toList (rst r' j).data.toList
 | 0 => h
 | j + 1 => by
  have ih := eqw_st hs h h1 h2 j
  have k1 := Nat.le_trans (rst_le r j) h1
  have k2 := Nat.le_trans (rst_le r' j) h2
  show Qw suf (rsF (rst r j)).data.toList (rsF (rst r' j)).data.toList
  rw [rsF_1 k1, rsF_1 k2, rs1_L, rs1_L]
  exact (ih.step hs).2
theorem eqw_of {suf : List UInt8} (hs : Suf suf) {r r' : ByteArray} (h : Qw suf r.data.toList r'.data.toList) (h1 : r.size ≤ 100000) (h2 : r'.size ≤ 100000) : Eqw r r' := fun j => by
 have ih := eqw_st hs h h1 h2 j
 have k1 := Nat.le_trans (rst_le r j) h1
 have k2 := Nat.le_trans (rst_le r' j) h2
 rw [wdF_1 k1, wdF_1 k2]
 refine ba_ext ?_
 rw [wd1_L, wd1_L]
 exact (ih.step hs).1.symm
def rnE (s : PS) (n : Nat) : List ByteArray → Option PS
 | [] => some s
 | l :: ls => match lnE s n l with
  | .ok s1 => rnE s1 (n + 1) ls
  | .error _ => none
theorem rn_cons {s s1 : PS} {n : Nat} {l : ByteArray} {ls : List ByteArray} (h : lnE s n l = .ok s1) : rnE s n (l :: ls) = rnE s1 (n + 1) ls := by
 show (match lnE s n l with | .ok s1 => _ | .error _ => _) = _
 rw [h]
theorem tg_mid (pre ls : List ByteArray) (l : ByteArray) : Ip.tg (pre ++ l :: ls) pre.length = l := by
 unfold Ip.tg
 simp
theorem lns_rn : ∀ (ls pre : List ByteArray) (s s2 : PS), lnsE (pre ++ ls) pre.length = .ok s → lnsE (pre ++ ls) (pre ++ ls).length = .ok s2 → rnE s (pre.length + 1) ls = some s2
 | [], pre, s, s2, h, h2 => by
  rw [List.append_nil] at h h2
  rw [h] at h2
  cases h2
  rfl
 | l :: ls, pre, s, s2, h, h2 => by
  have hk : pre.length + 1 ≤ (pre ++ l :: ls).length := by simp
  obtain ⟨s1, h1⟩ := lns_pre h2 (pre.length + 1) hk
  have h1' := h1
  rw [lns_S, h] at h1'
  rw [tg_mid] at h1'
  cases hx : lnE s (pre.length + 1) l with
  | error e => simp only [hx] at h1'; cases h1'
  | ok s3 =>
   simp only [hx] at h1'
   obtain rfl : s3 = s1 := by cases h1'; rfl
   rw [rn_cons hx]
   have ih := lns_rn ls (pre ++ [l]) s3 s2 (by
    rw [List.append_assoc, List.length_append]
    exact h1) (by
    rw [List.append_assoc]
    exact h2)
   rw [List.length_append] at ih
   exact ih
theorem rn_lns : ∀ (ls pre : List ByteArray) (s s2 : PS), lnsE (pre ++ ls) pre.length = .ok s → rnE s (pre.length + 1) ls = some s2 → lnsE (pre ++ ls) (pre ++ ls).length = .ok s2
 | [], pre, s, s2, h, h2 => by
  rw [List.append_nil] at h ⊢
  cases h2
  exact h
 | l :: ls, pre, s, s2, h, h2 => by
  cases hx : lnE s (pre.length + 1) l with
  | error e =>
   have : rnE s (pre.length + 1) (l :: ls) = none := by
    show (match lnE s (pre.length + 1) l with | .ok s1 => _ | .error _ => _) = _
    rw [hx]
   rw [this] at h2
   cases h2
  | ok s3 =>
   rw [rn_cons hx] at h2
   have h1 : lnsE (pre ++ l :: ls) (pre.length + 1) = .ok s3 := by
    rw [lns_S, h, tg_mid]
    simp only [hx]
   have ih := rn_lns ls (pre ++ [l]) s3 s2 (by
    rw [List.append_assoc, List.length_append]
    exact h1) (by
    rw [List.length_append]
    exact h2)
   rw [List.append_assoc] at ih
   exact ih
def sfx : Nat → List UInt8
 | 0 => []
 | 1 => [32, 35, 32, 97, 99, 99, 101, 112, 116, 32, 97, 110, 121]
 | 2 => [32, 32]
 | _ => [10, 32, 9, 10, 35, 32, 120]
theorem sfx_suf {k : Nat} (h : k < 3) : Suf (sfx k) := by
 match k, h with
 | 0, _ => exact suf0
 | 1, _ => exact suf1
 | 2, _ => exact suf2
theorem sfx_no {k : Nat} (h : k < 3) : (10 : UInt8) ∉ sfx k := by
 match k, h with
 | 0, _ | 1, _ | 2, _ => decide
theorem sfx_len (k : Nat) : (sfx k).length ≤ 13 := by
 match k with
 | 0 | 1 | 2 => decide
 | _ + 3 => exact (by decide : ([10, 32, 9, 10, 35, 32, 120] : List UInt8).length ≤ 13)
theorem sfx_3 {k : Nat} (h : ¬ k < 3) : sfx k = [10, 32, 9, 10, 35, 32, 120] := by
 match k, h with
 | k + 3, _ => rfl
 | 0, h | 1, h | 2, h => exact absurd (by decide) h
def rmF (hw : Nat → Nat) (k : Nat) : List UInt8 → List UInt8
 | [] => []
 | c :: l => if c = 10 then sfx (hw k) ++ 10 :: rmF hw (k + 1) l else bk [c] ++ rmF hw k l
def jnl : List (List UInt8) → List UInt8
 | [] => []
 | l :: ls => l ++ 10 :: jnl ls
theorem jnl_app : ∀ a b, jnl (a ++ b) = jnl a ++ jnl b
 | [], b => rfl
 | l :: a, b => by
  show l ++ 10 :: jnl (a ++ b) = l ++ 10 :: jnl a ++ jnl b
  rw [jnl_app a b]
  simp
theorem jnl_lnH (b : UInt8) : ∀ L, L ≠ [] → jnl (lnH b L) = b :: jnl L
 | [], h => absurd rfl h
 | l :: L, _ => rfl
theorem jnl_lnL : ∀ s : List UInt8, s ++ [10] = jnl (lnL s)
 | [] => rfl
 | b :: s => by
  have ih := jnl_lnL s
  rw [lnL_cons]
  by_cases h : b = 10
  ·subst h
   rw [if_pos rfl]
   show 10 :: (s ++ [10]) = 10 :: jnl (lnL s)
   rw [ih]
  ·rw [if_neg h, jnl_lnH b _ (lnL_ne s), ← ih]
   rfl
theorem bk_app (a b : List UInt8) : bk (a ++ b) = bk a ++ bk b := List.flatMap_append ..
theorem bk_no {l : List UInt8} (h : (10 : UInt8) ∉ l) : (10 : UInt8) ∉ bk l := fun hm => by
 obtain ⟨c, hc, h2⟩ := List.mem_flatMap.1 hm
 by_cases e : c = 32
 ·rw [if_pos e] at h2
  revert h2
  decide
 ·rw [if_neg e] at h2
  have := List.mem_singleton.1 h2
  subst this
  exact h hc
theorem bk_len : ∀ l : List UInt8, (bk l).length ≤ 3 * l.length
 | [] => Nat.le_refl _
 | c :: l => by
  have := bk_len l
  rw [bk_cons]
  by_cases e : c = 32
  ·rw [if_pos e]
   simp only [List.length_append, List.length_cons, List.length_nil]
   omega
  ·rw [if_neg e]
   simp only [List.length_append, List.length_cons, List.length_nil]
   omega
theorem rm_line (hw : Nat → Nat) (k : Nat) (b : List UInt8) : ∀ l : List UInt8, (10 : UInt8) ∉ l → rmF hw k (l ++ 10 :: b) = bk l ++ (sfx (hw k) ++ 10 :: rmF hw (k + 1) b)
 | [], _ => rfl
 | c :: l, h => by
  have h1 : ¬ c = 10 := fun e => h (by simp [e])
  have ih := rm_line hw k b l (fun e => h (by simp [e]))
  show (if c = 10 then _ else bk [c] ++ rmF hw k (l ++ 10 :: b)) = bk (c :: l) ++ _
  rw [if_neg h1, ih, show c :: l = [c] ++ l from rfl, bk_app, List.append_assoc]
def gp (h : Nat) (l : List UInt8) : List (List UInt8) := if h < 3 then [bk l ++ sfx h] else [bk l, [32, 9], [35, 32, 120]]
def gpL (hw : Nat → Nat) (k : Nat) : List (List UInt8) → List (List UInt8)
 | [] => []
 | l :: ls => gp (hw k) l ++ gpL hw (k + 1) ls
theorem jnl_gp (h : Nat) (l : List UInt8) : jnl (gp h l) = bk l ++ (sfx h ++ [10]) := by
 unfold gp
 by_cases e : h < 3
 ·rw [if_pos e]
  show bk l ++ sfx h ++ [10] = _
  rw [List.append_assoc]
 ·rw [if_neg e, sfx_3 e]
  rfl
theorem rm_jnl (hw : Nat → Nat) : ∀ (L : List (List UInt8)) (k : Nat), (∀ l ∈ L, (10 : UInt8) ∉ l) → rmF hw k (jnl L) = jnl (gpL hw k L)
 | [], k, _ => rfl
 | l :: L, k, h => by
  have ih := rm_jnl hw L (k + 1) fun x hx => h x (List.mem_cons_of_mem _ hx)
  show rmF hw k (l ++ 10 :: jnl L) = jnl (gp (hw k) l ++ gpL hw (k + 1) L)
  rw [rm_line hw k _ l (h l (List.mem_cons_self ..)), jnl_app, jnl_gp, ih]
  simp
theorem lnL_one : ∀ l : List UInt8, (10 : UInt8) ∉ l → lnL l = [l]
 | [], _ => rfl
 | c :: l, h => by
  have h1 : ¬ c = 10 := fun e => h (by simp [e])
  rw [lnL_cons, if_neg h1, lnL_one l (fun e => h (by simp [e]))]
  rfl
theorem lnL_jnl : ∀ L : List (List UInt8), (∀ l ∈ L, (10 : UInt8) ∉ l) → lnL (jnl L) = L ++ [[]]
 | [], _ => rfl
 | l :: L, h => by
  show lnL (l ++ 10 :: jnl L) = _
  rw [lnL_app, lnL_one l (h l (List.mem_cons_self ..)), lnL_jnl L fun x hx => h x (List.mem_cons_of_mem _ hx)]
  rfl
theorem gp_no {h : Nat} {l : List UInt8} (hl : (10 : UInt8) ∉ l) : ∀ x ∈ gp h l, (10 : UInt8) ∉ x := by
 unfold gp
 by_cases e : h < 3
 ·rw [if_pos e]
  intro x hx
  obtain rfl := List.mem_singleton.1 hx
  intro hm
  rcases List.mem_append.1 hm with h1 | h1
  ·exact bk_no hl h1
  ·exact sfx_no e h1
 ·rw [if_neg e]
  intro x hx
  simp only [List.mem_cons, List.not_mem_nil, or_false] at hx
  rcases hx with rfl | rfl | rfl
  ·exact bk_no hl
  ·decide
  ·decide
theorem gpL_no (hw : Nat → Nat) : ∀ (L : List (List UInt8)) (k : Nat), (∀ l ∈ L, (10 : UInt8) ∉ l) → ∀ x ∈ gpL hw k L, (10 : UInt8) ∉ x
 | [], k, _, x, hx => by cases hx
 | l :: L, k, h, x, hx => by
  rcases List.mem_append.1 hx with h1 | h1
  ·exact gp_no (h l (List.mem_cons_self ..)) x h1
  ·exact gpL_no hw L (k + 1) (fun y hy => h y (List.mem_cons_of_mem _ hy)) x h1
def mkB (l : List UInt8) : ByteArray := ⟨l.toArray⟩
theorem mkB_data (l : List UInt8) : (mkB l).data.toList = l := rfl
theorem mkB_size (l : List UInt8) : (mkB l).size = l.length := ba_size l
theorem mkB_of (b : ByteArray) : mkB b.data.toList = b := ba_ext rfl
theorem lnE_bl {s : PS} (n : Nat) {l : List UInt8} (h : wdL l = []) (hl : l.length ≤ 100000) : ∃ t, lnE s n (mkB l) = .ok t ∧ psQ t = psQ s := by
 refine lnE_none n ?_
 rw [wdF_1 (by rw [mkB_size]; exact hl)]
 have e := wd1_L (mkB l)
 rw [mkB_data, h] at e
 have : (wd1 (mkB l)).data.toList.length = (wd1 (mkB l)).size := by
  show _ = (wd1 (mkB l)).data.size
  simp
 rw [← this, e]
 rfl
theorem rn_gp (hw : Nat → Nat) : ∀ (L : List ByteArray) (R : List ByteArray) (k n n' : Nat) (s t s2 : PS), (∀ l ∈ L, l.size ≤ 10000) → psQ t = psQ s → rnE s n L = some s2 → ∃ t2 n2, rnE t n' ((gpL hw k (L.map (·.data.toList))).map mkB ++ R) = rnE t2 n2 R ∧ psQ t2 = psQ s2
 | [], R, k, n, n', s, t, s2, _, hq, h => by
  cases h
  exact ⟨t, n', rfl, hq⟩
 | l :: L, R, k, n, n', s, t, s2, hz, hq, h => by
  have hl := hz l (List.mem_cons_self ..)
  have hll : l.data.toList.length ≤ 10000 := by
   have : l.data.toList.length = l.size := by show _ = l.data.size; simp
   omega
  have hb := bk_len l.data.toList
  cases hx : lnE s n l with
  | error e =>
   have : rnE s n (l :: L) = none := by
    show (match lnE s n l with | .ok s1 => _ | .error _ => _) = _
    rw [hx]
   rw [this] at h
   cases h
  | ok s1 =>
   rw [rn_cons hx] at h
   have rec_ := fun t1 n1 (q : psQ t1 = psQ s1) => rn_gp hw L R (k + 1) (n + 1) n1 s1 t1 s2 (fun x hx => hz x (List.mem_cons_of_mem _ hx)) q h
   show ∃ t2 n2, rnE t n' ((gp (hw k) l.data.toList ++ gpL hw (k + 1) (L.map (·.data.toList))).map mkB ++ R) = _ ∧ _
   rw [List.map_append, List.append_assoc]
   unfold gp
   by_cases e : hw k < 3
   ·rw [if_pos e]
    have hsl := sfx_len (hw k)
    have he : Eqw l (mkB (bk l.data.toList ++ sfx (hw k))) := eqw_of (sfx_suf e) (.inr rfl) (by omega) (by rw [mkB_size, List.length_append]; omega)
    obtain ⟨t1, h1, q1⟩ := lnE_w hq n n' he hx
    obtain ⟨t2, n2, h2, q2⟩ := rec_ t1 (n' + 1) q1
    refine ⟨t2, n2, ?_, q2⟩
    rw [← h2]
    exact rn_cons h1
   ·rw [if_neg e]
    have he : Eqw l (mkB (bk l.data.toList)) := eqw_of suf0 (.inr (by rw [mkB_data, List.append_nil])) (by omega) (by rw [mkB_size]; omega)
    obtain ⟨t1, h1, q1⟩ := lnE_w hq n n' he hx
    obtain ⟨t3, h3, q3⟩ := lnE_bl (s := t1) (n' + 1) (l := [32, 9]) rfl (by decide)
    obtain ⟨t4, h4, q4⟩ := lnE_bl (s := t3) (n' + 1 + 1) (l := [35, 32, 120]) rfl (by decide)
    obtain ⟨t2, n2, h2, q2⟩ := rec_ t4 (n' + 1 + 1 + 1) (by rw [q4, q3, q1])
    refine ⟨t2, n2, ?_, q2⟩
    rw [← h2]
    exact (rn_cons h1).trans ((rn_cons h3).trans (rn_cons h4))
theorem spl_mk (t : ByteArray) : Ip.spl t nlB = (lnL t.data.toList).map mkB := by
 rw [← spl_lines, List.map_map]
 refine (List.map_id _).symm.trans (List.map_congr_left fun x _ => ?_)
 exact (mkB_of x).symm
theorem find_w {s t : PS} (h : psQ t = psQ s) (hs : s.M.find? (fun m => !mtl s.G s.T s.H m) = none) : t.M.find? (fun m => !mtl t.G t.T t.H m) = none := by
 simp only [psQ, Prod.mk.injEq] at h
 obtain ⟨e1, e2, e3, e4, e5⟩ := h
 rw [List.find?_eq_none] at hs ⊢
 intro m hm
 have : m.sel ∈ t.M.map (·.sel) := List.mem_map.2 ⟨m, hm, rfl⟩
 rw [e5] at this
 obtain ⟨m2, hm2, e6⟩ := List.mem_map.1 this
 have := hs m2 hm2
 rw [e1, e2, e3]
 unfold mtl at this ⊢
 rw [← e6]
 exact this
theorem rmk_ok {s t : ByteArray} {p : PS} (hw : Nat → Nat) (hs : s.size ≤ 8192) (ht : t.data.toList = rmF hw 0 (s.data.toList ++ [10])) (h : prA s = .ok p) : ∃ q, prA t = .ok q ∧ q.G = p.G ∧ q.T = p.T ∧ q.H = p.H ∧ q.A = p.A := by
 unfold prA at h ⊢
 cases hx : lnsE (Ip.spl s nlB) (Ip.spl s nlB).length with
 | error e => rw [hx] at h; cases h
 | ok p1 =>
  rw [hx] at h
  have h' : (match p1.M.find? (fun m => !mtl p1.G p1.T p1.H m) with | none => (.ok p1 : Except (Int × Int × Int) PS) | some m => .error (m.e, m.line, m.at_)) = .ok p := h
  cases hf : p1.M.find? (fun m => !mtl p1.G p1.T p1.H m) with
  | some m => rw [hf] at h'; cases h'
  | none =>
   rw [hf] at h'
   cases h'
   have k1 : rnE ps0 1 (Ip.spl s nlB) = some p := lns_rn (Ip.spl s nlB) [] ps0 p rfl hx
   have no := lnL_no s.data.toList
   have e2 : lnL t.data.toList = gpL hw 0 (lnL s.data.toList) ++ [[]] := by
    rw [ht, jnl_lnL, rm_jnl hw _ _ no, lnL_jnl _ (gpL_no hw _ _ no)]
   have hz : ∀ l ∈ Ip.spl s nlB, l.size ≤ 10000 := fun l hl => by
    have h1 : l.data.toList ∈ lnL s.data.toList := by
     rw [← spl_lines]
     exact List.mem_map.2 ⟨l, hl, rfl⟩
    have h2 : ∀ (L : List (List UInt8)) (x : List UInt8), x ∈ L → x.length ≤ (jnl L).length := by
     intro L
     induction L with
     | nil => intro x hx; cases hx
     | cons a L ih =>
      intro x hx
      have e : (jnl (a :: L)).length = a.length + ((jnl L).length + 1) := by simp [jnl]
      rcases List.mem_cons.1 hx with rfl | hx
      ·omega
      ·have := ih x hx
       omega
    have h3 := h2 _ _ h1
    rw [← jnl_lnL, List.length_append] at h3
    have e4 : l.data.toList.length = l.size := by show _ = l.data.size; simp
    have e5 : s.data.toList.length = s.size := by show _ = s.data.size; simp
    simp only [List.length_cons, List.length_nil] at h3
    omega
   obtain ⟨t2, n2, k2, q2⟩ := rn_gp hw (Ip.spl s nlB) [mkB []] 0 1 1 ps0 ps0 p hz rfl k1
   obtain ⟨t3, k3, q3⟩ := lnE_bl (s := t2) n2 (l := []) rfl (by decide)
   have e3 : Ip.spl t nlB = (gpL hw 0 ((Ip.spl s nlB).map (·.data.toList))).map mkB ++ [mkB []] := by
    rw [spl_mk, e2, spl_lines, List.map_append]
    rfl
   have k4 : rnE ps0 1 (Ip.spl t nlB) = some t3 := by
    rw [e3, k2]
    exact rn_cons k3
   have k5 : lnsE (Ip.spl t nlB) (Ip.spl t nlB).length = .ok t3 := rn_lns (Ip.spl t nlB) [] ps0 t3 rfl k4
   have q4 : psQ t3 = psQ p := q3.trans q2
   rw [k5]
   show ∃ q, (match t3.M.find? (fun m => !mtl t3.G t3.T t3.H m) with | none => (.ok t3 : Except (Int × Int × Int) PS) | some m => .error (m.e, m.line, m.at_)) = .ok q ∧ _
   rw [find_w q4 hf]
   simp only [psQ, Prod.mk.injEq] at q4
   exact ⟨t3, rfl, q4.1, q4.2.1, q4.2.2.1, q4.2.2.2.1⟩
end Go.Proofs.YtbdgncndhnnjoaaGreatDoor

namespace Go.Proofs.YtbdgncndhnnjoaaGreatDoor
open Go.RowKit YtbdgncndhnnjoaaGreatDoor
set_option linter.unusedVariables false
set_option linter.unusedSimpArgs false
set_option maxHeartbeats 0
set_option maxRecDepth 100000
structure Bl (s : PS) : Prop where
 g : ∀ x ∈ s.G, x.list.length ≤ 65
 t : ∀ x ∈ s.T, x.list.length ≤ 65
 a : ∀ x ∈ s.A, x.protos.length ≤ 300000 ∧ x.src.length ≤ 65 ∧ x.dst.length ≤ 65 ∧ x.ports.length ≤ 65
theorem mem_snoc {α : Type} {l : List α} {a x : α} (h : x ∈ l ++ [a]) : x ∈ l ∨ x = a := by
 rcases List.mem_append.1 h with h | h
 ·exact .inl h
 ·exact .inr (List.mem_singleton.1 h)
theorem grE_bl {G T : List Nam} {H : List Hst} {n a : Nat} {w r : ByteArray} {y : NY Nam} (h : grE G T H n a w r = .ok y) {x : Nam} (hx : x ∈ y.L) : x ∈ G ∨ x.list.length ≤ 65 := by
 obtain ⟨_, h1, h⟩ := bnd_ok h
 obtain ⟨j, h2, h⟩ := bnd_ok h
 have := lsE_le h2
 cases h
 rcases mem_snoc hx with hx | rfl
 ·exact .inl hx
 ·exact .inr (by show (wrds _ _ j).length ≤ 65; rw [wrds_len]; omega)
theorem tgE_bl {G T : List Nam} {H : List Hst} {n a : Nat} {w r : ByteArray} {y : NY Nam} (h : tgE G T H n a w r = .ok y) {x : Nam} (hx : x ∈ y.L) : x ∈ T ∨ x.list.length ≤ 65 := by
 obtain ⟨_, h1, h⟩ := bnd_ok h
 obtain ⟨j, h2, h⟩ := bnd_ok h
 have := lsE_le h2
 cases h
 rcases mem_snoc hx with hx | rfl
 ·exact .inl hx
 ·exact .inr (by show (wrds _ _ j).length ≤ 65; rw [wrds_len]; omega)
theorem prF_le (w : ByteArray) : (prF w).length ≤ w.size + 1 := by
 unfold prF
 split
 ·exact Nat.zero_le _
 ·rw [prL_len]
  exact spl_le w _ (by decide)
theorem acE_bl {A : List Acl} {M : List Men} {n a : Nat} {w r : ByteArray} {y : AY} (hr : r.size ≤ 200000) (h : acE A M n a w r = .ok y) {x : Acl} (hx : x ∈ y.A) : x ∈ A ∨ (x.protos.length ≤ 300000 ∧ x.src.length ≤ 65 ∧ x.dst.length ≤ 65 ∧ x.ports.length ≤ 65) := by
 have hp : (prF (wdF r)).length ≤ 300000 := by
  have h1 := prF_le (wdF r)
  have h2 := wdF_le r
  omega
 unfold acE at h
 split at h
 ·split at h
  ·cases h
  ·split at h
   ·split at h
    ·obtain ⟨j, h2, h⟩ := bnd_ok h
     have b2 := lsE_le h2
     split at h
     ·obtain ⟨k, h3, h⟩ := bnd_ok h
      have b3 := lsE_le h3
      split at h
      ·cases h
       rcases mem_snoc hx with hx | rfl
       ·exact .inl hx
       ·exact .inr ⟨hp, by show (sels _ _ j).length ≤ 65; rw [sels_len]; omega, by show (sels _ _ k).length ≤ 65; rw [sels_len]; omega, Nat.zero_le _⟩
      ·split at h
       ·obtain ⟨m, h4, h⟩ := bnd_ok h
        have b4 := lsE_le h4
        cases h
        rcases mem_snoc hx with hx | rfl
        ·exact .inl hx
        ·exact .inr ⟨hp, by show (sels _ _ j).length ≤ 65; rw [sels_len]; omega, by show (sels _ _ k).length ≤ 65; rw [sels_len]; omega, by show (prts _ _ m).length ≤ 65; rw [prts_len]; omega⟩
       ·cases h
     ·cases h
    ·cases h
   ·cases h
 ·cases h
theorem lnE_bl2 {s s' : PS} {n : Nat} {l : ByteArray} (hl : l.size ≤ 200000) (b : Bl s) (h : lnE s n l = .ok s') : Bl s' := by
 obtain ⟨b1, b2, b3⟩ := b
 rw [lnE_eq] at h
 split at h
 ·cases h
  exact ⟨b1, b2, b3⟩
 ·split at h
  ·split at h
   ·cases h
   ·rename_i y hy
    rw [finE_ok h]
    exact ⟨fun x hx => (grE_bl hy hx).elim (b1 x) id, b2, b3⟩
  ·split at h
   ·split at h
    ·cases h
    ·rename_i y hy
     rw [finE_ok h]
     exact ⟨b1, fun x hx => (tgE_bl hy hx).elim (b2 x) id, b3⟩
   ·split at h
    ·split at h
     ·cases h
     ·rename_i y hy
      rw [finE_ok h]
      exact ⟨b1, b2, b3⟩
    ·split at h
     ·split at h
      ·cases h
      ·rename_i y hy
       rw [finE_ok h]
       exact ⟨b1, b2, fun x hx => (acE_bl (Nat.le_trans (rsF_le l) hl) hy hx).elim (b3 x) id⟩
     ·cases h
theorem lns_bl {ls : List ByteArray} (hl : ∀ i, (Ip.tg ls i).size ≤ 200000) : ∀ {x : Nat} {s : PS}, lnsE ls x = .ok s → Bl s
 | 0, s, h => by
  cases h
  exact ⟨fun x hx => (List.not_mem_nil hx).elim, fun x hx => (List.not_mem_nil hx).elim, fun x hx => (List.not_mem_nil hx).elim⟩
 | x + 1, s, h => by
  rw [lns_S] at h
  rcases h1 : lnsE ls x with e | s1
  ·rw [h1] at h; cases h
  ·rw [h1] at h
   rcases h2 : lnE s1 (x + 1) (Ip.tg ls x) with ⟨e, p⟩ | s2
   ·simp only [h2] at h; cases h
   ·simp only [h2] at h
    cases h
    exact lnE_bl2 (hl x) (lns_bl hl h1) h2
theorem prA_ln {t : ByteArray} {s : PS} (h : prA t = .ok s) : lnsE (Ip.spl t nlB) (Ip.spl t nlB).length = .ok s := by
 unfold prA at h
 cases hx : lnsE (Ip.spl t nlB) (Ip.spl t nlB).length with
 | error e => rw [hx] at h; cases h
 | ok p1 =>
  rw [hx] at h
  have h' : (match p1.M.find? (fun m => !mtl p1.G p1.T p1.H m) with | none => (.ok p1 : Except (Int × Int × Int) PS) | some m => .error (m.e, m.line, m.at_)) = .ok s := h
  cases hf : p1.M.find? (fun m => !mtl p1.G p1.T p1.H m) with
  | some m => rw [hf] at h'; cases h'
  | none => rw [hf] at h'; cases h'; rfl
theorem prA_bl {t : ByteArray} {s : PS} (ht : t.size ≤ 8192) (h : prA t = .ok s) : Bd s ∧ Bl s :=
 ⟨lns_bd (prA_ln h), lns_bl (fun i => Nat.le_trans (tg_le t i) (by omega)) (prA_ln h)⟩
theorem rmF_app (hw : Nat → Nat) (b : List UInt8) : ∀ (l : List UInt8) (k : Nat), rmF hw k (l ++ b) = rmF hw k l ++ rmF hw (k + l.count 10) b
 | [], k => by simp [rmF]
 | c :: l, k => by
  show (if c = 10 then _ else _) = (if c = 10 then _ else _) ++ _
  by_cases h : c = 10
  ·subst h
   rw [if_pos rfl, if_pos rfl]
   show sfx (hw k) ++ 10 :: rmF hw (k + 1) (l ++ b) = _
   rw [rmF_app hw b l (k + 1), List.count_cons_self, Nat.add_comm (l.count 10) 1, Nat.add_assoc]
   simp
  ·rw [if_neg h, if_neg h]
   show bk [c] ++ rmF hw k (l ++ b) = _
   rw [rmF_app hw b l k, List.count_cons_of_ne h]
   simp
end Go.Proofs.YtbdgncndhnnjoaaGreatDoor

namespace Go.Proofs.YtbdgncndhnnjoaaGreatDoor
open Go.RowKit YtbdgncndhnnjoaaGreatDoor
set_option linter.unusedVariables false
set_option linter.unusedSimpArgs false
set_option maxHeartbeats 0
set_option maxRecDepth 100000
def hwF (rs : Nat → Int) (n k : Nat) : Nat := if k < n then (rs k % 4).toNat else 0
def tF (hw : Nat → Nat) (L : List UInt8) (i : Nat) : ByteArray := mkB (rmF hw 0 (L.take i))
def lF (L : List UInt8) (i : Nat) : Nat := (L.take i).count 10
theorem tF_0 (hw : Nat → Nat) (L : List UInt8) : tF hw L 0 = ⟨#[]⟩ := by
 unfold tF
 rw [List.take_zero]
 rfl
theorem lF_0 (L : List UInt8) : lF L 0 = 0 := by
 unfold lF
 rw [List.take_zero]
 rfl
theorem mkB_app (a b : List UInt8) : mkB (a ++ b) = mkB a ++ mkB b := ba_ext (by simp [mkB, ByteArray.data_append])
theorem tF_S {hw : Nat → Nat} {L : List UInt8} {i : Nat} {c : UInt8} (h : L[i]? = some c) : tF hw L (i + 1) = tF hw L i ++ mkB (rmF hw (lF L i) [c]) := by
 unfold tF lF
 rw [List.take_add_one, h, ← mkB_app]
 show mkB (rmF hw 0 (L.take i ++ [c])) = _
 rw [rmF_app, Nat.zero_add]
theorem lF_S {L : List UInt8} {i : Nat} {c : UInt8} (h : L[i]? = some c) : lF L (i + 1) = lF L i + (if c = 10 then 1 else 0) := by
 unfold lF
 rw [List.take_add_one, h, List.count_append]
 congr 1
 by_cases hc : c = 10
 ·rw [if_pos hc, hc]; rfl
 ·rw [if_neg hc]
  show List.count 10 [c] = 0
  rw [List.count_eq_zero]
  simpa using fun e => hc e.symm
theorem lF_le (L : List UInt8) (i : Nat) : lF L i ≤ L.length := Nat.le_trans List.count_le_length (by rw [List.length_take]; omega)
abbrev sL (s : ByteArray) : List UInt8 := s.data.toList ++ [10]
theorem sL_len (s : ByteArray) : (sL s).length = s.size + 1 := by
 rw [List.length_append]
 have : s.data.toList.length = s.size := by show _ = s.data.size; simp
 rw [this]
 rfl
theorem sL_at {s : ByteArray} {i : Nat} (h : i < s.size) : (sL s)[i]? = some (s[i]'h) := by
 have : s.data.toList.length = s.size := by show _ = s.data.size; simp
 rw [List.getElem?_append_left (by omega)]
 exact Lib.data_getElem? s i h
theorem sL_end (s : ByteArray) : (sL s)[s.size]? = some 10 := by
 have : s.data.toList.length = s.size := by show _ = s.data.size; simp
 rw [List.getElem?_append_right (by omega), this, Nat.sub_self]
 rfl
theorem ext_1 {s : ByteArray} {i : Nat} (h : i < s.size) : s.extract i (i + 1) = mkB [s[i]'h] := by
 refine ba_ext ?_
 have e := Lib.data_getElem? s i h
 have hl : s.data.toList.length = s.size := by show _ = s.data.size; simp
 have h2 : s.data.toList[i]'(by omega) = s[i]'h := by
  rw [List.getElem?_eq_getElem (by omega)] at e
  exact Option.some.inj e
 rw [mkB_data, ByteArray.data_extract, Array.toList_extract, List.extract_eq_take_drop, List.drop_eq_getElem_cons (by omega), h2, Nat.add_sub_cancel_left]
 rfl
theorem bt_eq {s : ByteArray} {i : Nat} (h : i < s.size) (c : UInt8) : bt s i = (c.toNat : Int) ↔ s[i]'h = c := by
 have e2 : bt s i = ((s[i]'h).toNat : Int) := by
  unfold bt
  rw [Array.getElem?_eq_getElem (show i < s.data.size from h)]
  rfl
 rw [e2]
 constructor
 ·intro e
  have : (s[i]'h).toNat = c.toNat := by omega
  exact UInt8.toNat_inj.1 this
 ·intro e
  rw [e]
theorem tF_b {hw : Nat → Nat} {s : ByteArray} {i : Nat} (h : i < s.size) (h1 : ¬ bt s i = 10) (h2 : ¬ bt s i = 32) : tF hw (sL s) i ++ s.extract i (i + 1) = tF hw (sL s) (i + 1) ∧ lF (sL s) (i + 1) = lF (sL s) i := by
 have c1 : ¬ s[i]'h = 10 := fun e => h1 ((bt_eq h 10).2 e)
 have c2 : ¬ s[i]'h = 32 := fun e => h2 ((bt_eq h 32).2 e)
 refine ⟨?_, by rw [lF_S (sL_at h), if_neg c1]; rfl⟩
 rw [tF_S (sL_at h), ext_1 h]
 congr 2
 show _ = (if s[i]'h = 10 then _ else bk [s[i]'h] ++ rmF hw _ [])
 rw [if_neg c1]
 show _ = ((if s[i]'h = 32 then _ else [s[i]'h]) ++ []) ++ []
 rw [if_neg c2]
 rfl
theorem tF_32 {hw : Nat → Nat} {s : ByteArray} {i : Nat} (h : i < s.size) (h2 : bt s i = 32) : (tF hw (sL s) i ++ s.extract i (i + 1)) ++ ⟨#[9, 32]⟩ = tF hw (sL s) (i + 1) ∧ lF (sL s) (i + 1) = lF (sL s) i := by
 have c2 : s[i]'h = 32 := (bt_eq h 32).1 h2
 have c1 : ¬ s[i]'h = 10 := by rw [c2]; decide
 refine ⟨?_, by rw [lF_S (sL_at h), if_neg c1]; rfl⟩
 rw [tF_S (sL_at h), ext_1 h, ByteArray.append_assoc]
 congr 1
 show _ = mkB (if s[i]'h = 10 then _ else bk [s[i]'h] ++ rmF hw _ [])
 rw [if_neg c1, c2]
 rfl
theorem tF_n {hw : Nat → Nat} {s : ByteArray} {i : Nat} (h : i = s.size ∨ (i < s.size ∧ bt s i = 10)) {w : ByteArray} (hw_ : w = mkB (sfx (hw (lF (sL s) i)))) : (tF hw (sL s) i ++ w) ++ ⟨#[10]⟩ = tF hw (sL s) (i + 1) ∧ lF (sL s) (i + 1) = lF (sL s) i + 1 := by
 have c : (sL s)[i]? = some 10 := by
  rcases h with rfl | ⟨h1, h2⟩
  ·exact sL_end s
  ·rw [sL_at h1, (bt_eq h1 10).1 h2]
 refine ⟨?_, by rw [lF_S c, if_pos rfl]⟩
 rw [tF_S c, hw_, ByteArray.append_assoc]
 exact congrArg _ (mkB_app _ _).symm
theorem rm_len (hw : Nat → Nat) : ∀ (l : List UInt8) (k : Nat), (rmF hw k l).length ≤ 14 * l.length
 | [], k => Nat.zero_le _
 | c :: l, k => by
  have h1 := rm_len hw l (k + 1)
  have h2 := rm_len hw l k
  have h3 := sfx_len (hw k)
  have h4 := bk_len [c]
  simp only [List.length_cons, List.length_nil] at h4
  show (if c = 10 then sfx (hw k) ++ 10 :: rmF hw (k + 1) l else bk [c] ++ rmF hw k l).length ≤ _
  split
  ·simp only [List.length_append, List.length_cons]
   omega
  ·simp only [List.length_append, List.length_cons]
   omega
theorem tF_sz (hw : Nat → Nat) (L : List UInt8) (i : Nat) : (tF hw L i).size ≤ 14 * i := by
 unfold tF
 rw [mkB_size]
 refine Nat.le_trans (rm_len hw _ 0) (Nat.mul_le_mul_left _ ?_)
 rw [List.length_take]
 exact Nat.min_le_left _ _
theorem sfx_sz (k : Nat) : (mkB (sfx k)).size ≤ 13 := by
 rw [mkB_size]
 exact sfx_len k
theorem hwF_lt {rs : Nat → Int} {n : Nat} (h : ∀ i, i < n → 0 ≤ rs i ∧ rs i < 256) (k : Nat) : hwF rs n k < 4 := by
 unfold hwF
 split
 ·omega
 ·decide
theorem hwF_m {rs : Nat → Int} {n k : Nat} (h : ∀ i, i < n → 0 ≤ rs i ∧ rs i < 256) (hk : k < n) : (rs k).tmod 4 = (hwF rs n k : Int) := by
 have := (h k hk).1
 unfold hwF
 rw [if_pos hk, Int.tmod_eq_emod_of_nonneg this]
 omega
theorem tF_end (hw : Nat → Nat) (s : ByteArray) : (tF hw (sL s) (s.size + 1)).data.toList = rmF hw 0 (s.data.toList ++ [10]) := by
 unfold tF
 rw [mkB_data, List.take_of_length_le (by rw [sL_len]; exact Nat.le_refl _)]
end Go.Proofs.YtbdgncndhnnjoaaGreatDoor

namespace Go.Proofs.YtbdgncndhnnjoaaGreatDoor
open Go.RowKit YtbdgncndhnnjoaaGreatDoor
set_option linter.unusedVariables false
set_option linter.unusedSimpArgs false
set_option maxHeartbeats 0
set_option maxRecDepth 100000
variable {C : World → Prop}
def allN (lo n : Nat) (p : Nat → Bool) : Bool := decide (lo ≤ n) && (decide (n ≤ 64) && (List.range n).all p)
theorem allN_lo {lo n : Nat} {p : Nat → Bool} (h : ¬ lo ≤ n) : allN lo n p = false := by unfold allN; rw [decide_eq_false h, Bool.false_and]
theorem allN_hi {lo n : Nat} {p : Nat → Bool} (h : ¬ n ≤ 64) : allN lo n p = false := by unfold allN; rw [decide_eq_false h, Bool.false_and, Bool.and_false]
theorem allN_no {lo n : Nat} {p : Nat → Bool} {x : Nat} (hx : x < n) (h : p x = false) : allN lo n p = false := by
 have : (List.range n).all p = false := List.all_eq_false.2 ⟨x, List.mem_range.2 hx, by simp [h]⟩
 unfold allN
 rw [this, Bool.and_false, Bool.and_false]
theorem allN_yes {lo n : Nat} {p : Nat → Bool} (h1 : lo ≤ n) (h2 : n ≤ 64) (h : ∀ i, i < n → p i = true) : allN lo n p = true := by
 have : (List.range n).all p = true := List.all_eq_true.2 fun i hi => h i (List.mem_range.1 hi)
 unfold allN
 rw [decide_eq_true h1, decide_eq_true h2, this]
 rfl
theorem c_allS (T : List Blk) (n : Nat) (nm : Nat → ByteArray) (v : Value) (lo : Nat) (h : Sl T 1 n (fun i _ => .string (nm i)) v) : Ct S0 C 75 [vV v, vV (.int .i64 (lo : Int)), vF (.func 16) [] []] [tX T] [] [] [] (vV (.bool (allN lo n fun i => labF (nm i)))) := by
 obtain ⟨base, cap, b0, o, rfl, H⟩ := h
 by_cases h1 : lo ≤ n
 ·by_cases h2 : n ≤ 64
  ·have h3 : ¬ (n : Int) < (lo : Int) := by omega
   have h4 : ¬ (n : Int) > 64 := by omega
   refine xIn Tryz.f75 fun E0 w0 hL hC hk => ?_
   refine xR 27 [(4, dF h3), (8, dF h4)] ?_
   refine xLp (fun (x : Nat) => [(20, vV (.int .i64 (x : Int)))]) (fun x => []) [21, 22, 23, 8, 24, 25, 26, 27, 6, 28] (fun x => x ≤ n ∧ ∀ i, i < x → labF (nm i) = true) (fun x => n - x) 0 ⟨Nat.zero_le _, fun i hi => absurd hi (Nat.not_lt_zero _)⟩ fun x d hx g => ?_
   by_cases q1 : (x : Int) < (n : Int)
   ·have q1' : x < n := by omega
    cases q2 : labF (nm x)
    ·have kp := fun C => (c_label (C := C) (nm x)).rb q2
     have q3 : allN lo n (fun i => labF (nm i)) = false := allN_no q1' q2
     refine xR 27 [(0, dT q1), (1, dIxR 44 H cap x q1'), (2, dLdR1 9 0 H x 0 (o + x * 1) q1'), (6, dC (kp _) [])] ?_
     exact xB (b' := false) q3.symm (xRetC [])
    ·have kp := fun C => (c_label (C := C) (nm x)).rb q2
     refine xR 29 [(0, dT q1), (1, dIxR 44 H cap x q1'), (2, dLdR1 9 0 H x 0 (o + x * 1) q1'), (6, dC (kp _) []), (8, dW ((↑x : Int) + 1) ((↑(x + 1) : Int)) (by omega) (by omega) (by omega))] ?_
     exact xNx g (x + 1) [21, 22, 23, 8, 24, 25, 26, 27, 6, 28] [0] (by exact ⟨by omega, fun i hi => by rcases Nat.lt_succ_iff_lt_or_eq.1 hi with h | h; exact hx.2 i h; rw [h]; assumption⟩) (by omega)
   ·have q3 : allN lo n (fun i => labF (nm i)) = true := allN_yes h1 h2 fun i hi => hx.2 i (by omega)
    refine xR 11 [(0, dF q1)] ?_
    exact xB (b' := true) q3.symm (xRetC [])
  ·rw [allN_hi h2]
   have h3 : ¬ (n : Int) < (lo : Int) := by omega
   have h4 : (n : Int) > 64 := by omega
   refine xIn Tryz.f75 fun E0 w0 hL hC hk => ?_
   refine xR 22 [(4, dF h3), (8, dT h4)] ?_
   exact (xRetC [])
 ·rw [allN_lo h1]
  have h3 : (n : Int) < (lo : Int) := by omega
  refine xIn Tryz.f75 fun E0 w0 hL hC hk => ?_
  refine xR 22 [(4, dT h3)] ?_
  exact (xRetC [])
theorem c_mayNamed (T : List Blk) (a : ByteArray) (n : Nat) (nm : Nat → ByteArray) (v : Value) (h : Sl T 1 n (fun i _ => .string (nm i)) v) : Ct S0 C 34 [vG [vV (.string a), vV v]] [tX T] [] [] [] (vV (.bool (labF a && allN 1 n fun i => labF (nm i)))) := by
 have k1 := fun C => c_allS (C := C) T n nm v 1 h
 obtain ⟨base, cap, b0, o, rfl, H⟩ := h
 cases q1 : labF a
 ·have k2 := fun C => (c_label (C := C) a).rb q1
  rw [Bool.false_and]
  refine xIn Tryz.f34 fun E0 w0 hL hC hk => ?_
  refine xR 17 [(4, dC (k2 _) [])] ?_
  exact (xRetC [])
 ·have k2 := fun C => (c_label (C := C) a).rb q1
  rw [Bool.true_and]
  refine xIn Tryz.f34 fun E0 w0 hL hC hk => ?_
  refine xR 17 [(4, dC (k2 _) []), (8, dC (k1 _) [0])] ?_
  exact (xRetC [])
theorem c_allN (T : List Blk) (n : Nat) (nm : Nat → ByteArray) (bs : Nat → Option Addr × Nat) (v : Value) (ln : Nat → Nat) (ws : Nat → Nat → ByteArray) (lo : Nat) (h : Sl T 2 n (nF nm fun i => .slice (bs i).1 (ln i) (bs i).2) v) (hs : ∀ i, i < n → Sl T 1 (ln i) (fun j _ => .string (ws i j)) (.slice (bs i).1 (ln i) (bs i).2)) : Ct S0 C 33 [vV v, vV (.int .i64 (lo : Int)), vF (.func 34) [] []] [tX T] [] [] [] (vV (.bool (allN lo n fun i => (labF (nm i) && allN 1 (ln i) fun j => labF (ws i j))))) := by
 obtain ⟨base, cap, b0, o, rfl, H⟩ := h
 by_cases h1 : lo ≤ n
 ·by_cases h2 : n ≤ 64
  ·have h3 : ¬ (n : Int) < (lo : Int) := by omega
   have h4 : ¬ (n : Int) > 64 := by omega
   refine xIn Tryz.f33 fun E0 w0 hL hC hk => ?_
   refine xR 27 [(4, dF h3), (8, dF h4)] ?_
   refine xLp (fun (x : Nat) => [(20, vV (.int .i64 (x : Int)))]) (fun x => []) [21, 22, 23, 8, 24, 25, 26, 27, 6, 28] (fun x => x ≤ n ∧ ∀ i, i < x → (labF (nm i) && allN 1 (ln i) fun j => labF (ws i j)) = true) (fun x => n - x) 0 ⟨Nat.zero_le _, fun i hi => absurd hi (Nat.not_lt_zero _)⟩ fun x d hx g => ?_
   by_cases q1 : (x : Int) < (n : Int)
   ·have q1' : x < n := by omega
    cases q2 : (labF (nm x) && allN 1 (ln x) fun j => labF (ws x j))
    ·have kp := fun C => (c_mayNamed (C := C) T (nm x) (ln x) (ws x) (.slice (bs x).1 (ln x) (bs x).2) (hs x q1')).rb q2
     have q3 : allN lo n (fun i => (labF (nm i) && allN 1 (ln i) fun j => labF (ws i j))) = false := allN_no q1' q2
     refine xR 28 [(0, dT q1), (1, dIxR 22 H cap x q1'), (2, dLdR 46 0 H x q1'), (7, dC (kp _) [0])] ?_
     exact xB (b' := false) q3.symm (xRetC [])
    ·have kp := fun C => (c_mayNamed (C := C) T (nm x) (ln x) (ws x) (.slice (bs x).1 (ln x) (bs x).2) (hs x q1')).rb q2
     refine xR 30 [(0, dT q1), (1, dIxR 22 H cap x q1'), (2, dLdR 46 0 H x q1'), (7, dC (kp _) [0]), (9, dW ((↑x : Int) + 1) ((↑(x + 1) : Int)) (by omega) (by omega) (by omega))] ?_
     exact xNx g (x + 1) [21, 22, 23, 8, 24, 25, 26, 27, 6, 28] [0] (by exact ⟨by omega, fun i hi => by rcases Nat.lt_succ_iff_lt_or_eq.1 hi with h | h; exact hx.2 i h; rw [h]; assumption⟩) (by omega)
   ·have q3 : allN lo n (fun i => (labF (nm i) && allN 1 (ln i) fun j => labF (ws i j))) = true := allN_yes h1 h2 fun i hi => hx.2 i (by omega)
    refine xR 11 [(0, dF q1)] ?_
    exact xB (b' := true) q3.symm (xRetC [])
  ·rw [allN_hi h2]
   have h3 : ¬ (n : Int) < (lo : Int) := by omega
   have h4 : (n : Int) > 64 := by omega
   refine xIn Tryz.f33 fun E0 w0 hL hC hk => ?_
   refine xR 22 [(4, dF h3), (8, dT h4)] ?_
   exact (xRetC [])
 ·rw [allN_lo h1]
  have h3 : (n : Int) < (lo : Int) := by omega
  refine xIn Tryz.f33 fun E0 w0 hL hC hk => ?_
  refine xR 22 [(4, dT h3)] ?_
  exact (xRetC [])
theorem c_mayHost (a : ByteArray) (x : Net) (hb0 : 0 ≤ x.bits) (hb1 : x.bits ≤ 255) : Ct S0 C 38 [vG [vV (.string a), vV (.bool x.v6), vV (.int .u64 x.hi), vV (.int .u64 x.lo), vV (.int .u8 x.bits)]] [] [] [] [] (vV (.bool (labF a && Ip.mP x.v6 x.hi x.lo x.bits))) := by
 have k1 := fun C => c_mayPrefix (C := C) x hb0 hb1
 cases q1 : labF a
 ·have k2 := fun C => (c_label (C := C) a).rb q1
  rw [Bool.false_and]
  refine xIn Tryz.f38 fun E0 w0 hL hC hk => ?_
  refine xR 17 [(4, dC (k2 _) [])] ?_
  exact (xRetC [])
 ·have k2 := fun C => (c_label (C := C) a).rb q1
  rw [Bool.true_and]
  refine xIn Tryz.f38 fun E0 w0 hL hC hk => ?_
  refine xR 17 [(4, dC (k2 _) []), (8, dC (k1 _) [])] ?_
  exact (xRetC [])
theorem c_allH (T : List Blk) (n : Nat) (nm : Nat → ByteArray) (nt : Nat → Net) (v : Value) (lo : Nat) (h : Sl T 5 n (hF nm nt) v) (hb : ∀ i, i < n → 0 ≤ (nt i).bits ∧ (nt i).bits ≤ 255) : Ct S0 C 37 [vV v, vV (.int .i64 (lo : Int)), vF (.func 38) [] []] [tX T] [] [] [] (vV (.bool (allN lo n fun i => (labF (nm i) && Ip.mP (nt i).v6 (nt i).hi (nt i).lo (nt i).bits)))) := by
 obtain ⟨base, cap, b0, o, rfl, H⟩ := h
 by_cases h1 : lo ≤ n
 ·by_cases h2 : n ≤ 64
  ·have h3 : ¬ (n : Int) < (lo : Int) := by omega
   have h4 : ¬ (n : Int) > 64 := by omega
   refine xIn Tryz.f37 fun E0 w0 hL hC hk => ?_
   refine xR 27 [(4, dF h3), (8, dF h4)] ?_
   refine xLp (fun (x : Nat) => [(20, vV (.int .i64 (x : Int)))]) (fun x => []) [21, 22, 23, 8, 24, 25, 26, 27, 6, 28] (fun x => x ≤ n ∧ ∀ i, i < x → (labF (nm i) && Ip.mP (nt i).v6 (nt i).hi (nt i).lo (nt i).bits) = true) (fun x => n - x) 0 ⟨Nat.zero_le _, fun i hi => absurd hi (Nat.not_lt_zero _)⟩ fun x d hx g => ?_
   by_cases q1 : (x : Int) < (n : Int)
   ·have q1' : x < n := by omega
    cases q2 : (labF (nm x) && Ip.mP (nt x).v6 (nt x).hi (nt x).lo (nt x).bits)
    ·have kp := fun C => (c_mayHost (C := C) (nm x) (nt x) (hb x q1').1 (hb x q1').2).rb q2
     have q3 : allN lo n (fun i => (labF (nm i) && Ip.mP (nt i).v6 (nt i).hi (nt i).lo (nt i).bits)) = false := allN_no q1' q2
     refine xR 28 [(0, dT q1), (1, dIxR 23 H cap x q1'), (2, dLdR 53 0 H x q1'), (7, dC (kp _) [])] ?_
     exact xB (b' := false) q3.symm (xRetC [])
    ·have kp := fun C => (c_mayHost (C := C) (nm x) (nt x) (hb x q1').1 (hb x q1').2).rb q2
     refine xR 30 [(0, dT q1), (1, dIxR 23 H cap x q1'), (2, dLdR 53 0 H x q1'), (7, dC (kp _) []), (9, dW ((↑x : Int) + 1) ((↑(x + 1) : Int)) (by omega) (by omega) (by omega))] ?_
     exact xNx g (x + 1) [21, 22, 23, 8, 24, 25, 26, 27, 6, 28] [0] (by exact ⟨by omega, fun i hi => by rcases Nat.lt_succ_iff_lt_or_eq.1 hi with h | h; exact hx.2 i h; rw [h]; assumption⟩) (by omega)
   ·have q3 : allN lo n (fun i => (labF (nm i) && Ip.mP (nt i).v6 (nt i).hi (nt i).lo (nt i).bits)) = true := allN_yes h1 h2 fun i hi => hx.2 i (by omega)
    refine xR 11 [(0, dF q1)] ?_
    exact xB (b' := true) q3.symm (xRetC [])
  ·rw [allN_hi h2]
   have h3 : ¬ (n : Int) < (lo : Int) := by omega
   have h4 : (n : Int) > 64 := by omega
   refine xIn Tryz.f37 fun E0 w0 hL hC hk => ?_
   refine xR 22 [(4, dF h3), (8, dT h4)] ?_
   exact (xRetC [])
 ·rw [allN_lo h1]
  have h3 : (n : Int) < (lo : Int) := by omega
  refine xIn Tryz.f37 fun E0 w0 hL hC hk => ?_
  refine xR 22 [(4, dT h3)] ?_
  exact (xRetC [])
theorem c_mayPorts (a e : Int) : Ct S0 C 74 [vG [vV (.int .u16 a), vV (.int .u16 e)]] [] [] [] [] (vV (.bool (decide (a ≤ e)))) := by
 refine xIn Tryz.f74 fun E0 w0 hL hC hk => ?_
 refine xR 14 [] ?_
 exact (xRetC [])
def ptN (a e : Nat → Int) (i : Nat) : Nat → Value
 | 0 => .int .u16 (a i)
 | _ => .int .u16 (e i)
theorem c_allP (T : List Blk) (n : Nat) (a e : Nat → Int) (v : Value) (lo : Nat) (h : Sl T 2 n (ptN a e) v) : Ct S0 C 73 [vV v, vV (.int .i64 (lo : Int)), vF (.func 74) [] []] [tX T] [] [] [] (vV (.bool (allN lo n fun i => decide (a i ≤ e i)))) := by
 obtain ⟨base, cap, b0, o, rfl, H⟩ := h
 by_cases h1 : lo ≤ n
 ·by_cases h2 : n ≤ 64
  ·have h3 : ¬ (n : Int) < (lo : Int) := by omega
   have h4 : ¬ (n : Int) > 64 := by omega
   refine xIn Tryz.f73 fun E0 w0 hL hC hk => ?_
   refine xR 27 [(4, dF h3), (8, dF h4)] ?_
   refine xLp (fun (x : Nat) => [(20, vV (.int .i64 (x : Int)))]) (fun x => []) [21, 22, 23, 8, 24, 25, 26, 27, 6, 28] (fun x => x ≤ n ∧ ∀ i, i < x → decide (a i ≤ e i) = true) (fun x => n - x) 0 ⟨Nat.zero_le _, fun i hi => absurd hi (Nat.not_lt_zero _)⟩ fun x d hx g => ?_
   by_cases q1 : (x : Int) < (n : Int)
   ·have q1' : x < n := by omega
    cases q2 : decide (a x ≤ e x)
    ·have kp := fun C => (c_mayPorts (C := C) (a x) (e x)).rb q2
     have q3 : allN lo n (fun i => decide (a i ≤ e i)) = false := allN_no q1' q2
     refine xR 28 [(0, dT q1), (1, dIxR 55 H cap x q1'), (2, dLdR 103 0 H x q1'), (7, dC (kp _) [])] ?_
     exact xB (b' := false) q3.symm (xRetC [])
    ·have kp := fun C => (c_mayPorts (C := C) (a x) (e x)).rb q2
     refine xR 30 [(0, dT q1), (1, dIxR 55 H cap x q1'), (2, dLdR 103 0 H x q1'), (7, dC (kp _) []), (9, dW ((↑x : Int) + 1) ((↑(x + 1) : Int)) (by omega) (by omega) (by omega))] ?_
     exact xNx g (x + 1) [21, 22, 23, 8, 24, 25, 26, 27, 6, 28] [0] (by exact ⟨by omega, fun i hi => by rcases Nat.lt_succ_iff_lt_or_eq.1 hi with h | h; exact hx.2 i h; rw [h]; assumption⟩) (by omega)
   ·have q3 : allN lo n (fun i => decide (a i ≤ e i)) = true := allN_yes h1 h2 fun i hi => hx.2 i (by omega)
    refine xR 11 [(0, dF q1)] ?_
    exact xB (b' := true) q3.symm (xRetC [])
  ·rw [allN_hi h2]
   have h3 : ¬ (n : Int) < (lo : Int) := by omega
   have h4 : (n : Int) > 64 := by omega
   refine xIn Tryz.f73 fun E0 w0 hL hC hk => ?_
   refine xR 22 [(4, dF h3), (8, dT h4)] ?_
   exact (xRetC [])
 ·rw [allN_lo h1]
  have h3 : (n : Int) < (lo : Int) := by omega
  refine xIn Tryz.f73 fun E0 w0 hL hC hk => ?_
  refine xR 22 [(4, dT h3)] ?_
  exact (xRetC [])
end Go.Proofs.YtbdgncndhnnjoaaGreatDoor

namespace Go.Proofs.YtbdgncndhnnjoaaGreatDoor
open Go.RowKit YtbdgncndhnnjoaaGreatDoor
set_option linter.unusedVariables false
set_option linter.unusedSimpArgs false
set_option maxHeartbeats 0
set_option maxRecDepth 100000
variable {C : World → Prop}
def mpF (x : Int) : Bool := decide (1 = x) || (decide (6 = x) || decide (17 = x))
theorem c_mayProto (x : Int) : Ct S0 C 70 [vV (.int .u8 x)] [] [] [] [] (vV (.bool (mpF x))) := by
 by_cases q1 : 1 = x
 ·rw [show mpF x = true by simp [mpF, q1]]
  refine xIn Tryz.f70 fun E0 w0 hL hC hk => ?_
  refine xR 11 [(1, dGl0)] ?_
  refine xUn 4 ?_
  refine xR 27 [(7, dB ((iEq (Int.ofNat 1) x).trans (DT (p := Int.ofNat 1 = x) (by omega))))] ?_
  exact (xRetC [])
 ·by_cases q2 : 6 = x
  ·rw [show mpF x = true by simp [mpF, q2]]
   refine xIn Tryz.f70 fun E0 w0 hL hC hk => ?_
   refine xR 11 [(1, dGl0)] ?_
   refine xUn 4 ?_
   refine xR 29 [(7, dB ((iEq (Int.ofNat 1) x).trans (DF (p := Int.ofNat 1 = x) (by omega))))] ?_
   refine xUm 3 ?_
   refine xR 27 [(7, dB ((iEq (Int.ofNat 6) x).trans (DT (p := Int.ofNat 6 = x) (by omega))))] ?_
   exact (xRetC [])
  ·by_cases q3 : 17 = x
   ·rw [show mpF x = true by simp [mpF, q3]]
    refine xIn Tryz.f70 fun E0 w0 hL hC hk => ?_
    refine xR 11 [(1, dGl0)] ?_
    refine xUn 4 ?_
    refine xR 29 [(7, dB ((iEq (Int.ofNat 1) x).trans (DF (p := Int.ofNat 1 = x) (by omega))))] ?_
    refine xUm 3 ?_
    refine xR 29 [(7, dB ((iEq (Int.ofNat 6) x).trans (DF (p := Int.ofNat 6 = x) (by omega))))] ?_
    refine xUm 2 ?_
    refine xR 27 [(7, dB ((iEq (Int.ofNat 17) x).trans (DT (p := Int.ofNat 17 = x) (by omega))))] ?_
    exact (xRetC [])
   ·rw [show mpF x = false by simp [mpF, q1, q2, q3]]
    refine xIn Tryz.f70 fun E0 w0 hL hC hk => ?_
    refine xR 11 [(1, dGl0)] ?_
    refine xUn 4 ?_
    refine xR 29 [(7, dB ((iEq (Int.ofNat 1) x).trans (DF (p := Int.ofNat 1 = x) (by omega))))] ?_
    refine xUm 3 ?_
    refine xR 29 [(7, dB ((iEq (Int.ofNat 6) x).trans (DF (p := Int.ofNat 6 = x) (by omega))))] ?_
    refine xUm 2 ?_
    refine xR 29 [(7, dB ((iEq (Int.ofNat 17) x).trans (DF (p := Int.ofNat 17 = x) (by omega))))] ?_
    refine xUm 1 ?_
    refine xR 11 [] ?_
    exact (xRetC [])
theorem c_allU (T : List Blk) (n : Nat) (f : Nat → Int) (v : Value) (lo : Nat) (h : Sl T 1 n (oneF f) v) : Ct S0 C 69 [vV v, vV (.int .i64 (lo : Int)), vF (.func 70) [] []] [tX T] [] [] [] (vV (.bool (allN lo n fun i => mpF (f i)))) := by
 obtain ⟨base, cap, b0, o, rfl, H⟩ := h
 by_cases h1 : lo ≤ n
 ·by_cases h2 : n ≤ 64
  ·have h3 : ¬ (n : Int) < (lo : Int) := by omega
   have h4 : ¬ (n : Int) > 64 := by omega
   refine xIn Tryz.f69 fun E0 w0 hL hC hk => ?_
   refine xR 27 [(4, dF h3), (8, dF h4)] ?_
   refine xLp (fun (x : Nat) => [(20, vV (.int .i64 (x : Int)))]) (fun x => []) [21, 22, 23, 8, 24, 25, 26, 27, 6, 28] (fun x => x ≤ n ∧ ∀ i, i < x → mpF (f i) = true) (fun x => n - x) 0 ⟨Nat.zero_le _, fun i hi => absurd hi (Nat.not_lt_zero _)⟩ fun x d hx g => ?_
   by_cases q1 : (x : Int) < (n : Int)
   ·have q1' : x < n := by omega
    cases q2 : mpF (f x)
    ·have kp := fun C => (c_mayProto (C := C) (f x)).rb q2
     have q3 : allN lo n (fun i => mpF (f i)) = false := allN_no q1' q2
     refine xR 27 [(0, dT q1), (1, dIxR 41 H cap x q1'), (2, dLdR1 5 0 H x 0 (o + x * 1) q1'), (6, dC (kp _) [])] ?_
     exact xB (b' := false) q3.symm (xRetC [])
    ·have kp := fun C => (c_mayProto (C := C) (f x)).rb q2
     refine xR 29 [(0, dT q1), (1, dIxR 41 H cap x q1'), (2, dLdR1 5 0 H x 0 (o + x * 1) q1'), (6, dC (kp _) []), (8, dW ((↑x : Int) + 1) ((↑(x + 1) : Int)) (by omega) (by omega) (by omega))] ?_
     exact xNx g (x + 1) [21, 22, 23, 8, 24, 25, 26, 27, 6, 28] [0] (by exact ⟨by omega, fun i hi => by rcases Nat.lt_succ_iff_lt_or_eq.1 hi with h | h; exact hx.2 i h; rw [h]; assumption⟩) (by omega)
   ·have q3 : allN lo n (fun i => mpF (f i)) = true := allN_yes h1 h2 fun i hi => hx.2 i (by omega)
    refine xR 11 [(0, dF q1)] ?_
    exact xB (b' := true) q3.symm (xRetC [])
  ·rw [allN_hi h2]
   have h3 : ¬ (n : Int) < (lo : Int) := by omega
   have h4 : (n : Int) > 64 := by omega
   refine xIn Tryz.f69 fun E0 w0 hL hC hk => ?_
   refine xR 22 [(4, dF h3), (8, dT h4)] ?_
   exact (xRetC [])
 ·rw [allN_lo h1]
  have h3 : (n : Int) < (lo : Int) := by omega
  refine xIn Tryz.f69 fun E0 w0 hL hC hk => ?_
  refine xR 22 [(4, dT h3)] ?_
  exact (xRetC [])
def slN (s : Nat → Sel) (i : Nat) : Nat → Value
 | 0 => .int .u8 (s i).kind
 | 1 => .string (s i).name
 | 2 => .bool (s i).net.v6
 | 3 => .int .u64 (s i).net.hi
 | 4 => .int .u64 (s i).net.lo
 | _ => .int .u8 (s i).net.bits
theorem c_selOk (T : List Blk) (v0 v1 v2 v3 : Value) (p : Tl T v0 v1 v2) (s : Sel) (hb0 : 0 ≤ s.net.bits) (hb1 : s.net.bits ≤ 255) : Ct S0 C 66 [vG (selS s), vP 1 0] [tX T, tC [vV v0, vV v1, vV v2, vV v3] 26] [] [] [] (vV (.bool (maySelF s && tlF p s))) := by
 have k2 := fun C => c_tells (C := C) T v0 v1 v2 v3 p s
 cases q1 : maySelF s
 ·have k1 := fun C => (c_maySel (C := C) s hb0 hb1).rb q1
  rw [Bool.false_and]
  refine xIn Tryz.f66 fun E0 w0 hL hC hk => ?_
  refine xR 16 [(3, dC (k1 _) [])] ?_
  exact (xRetC [])
 ·have k1 := fun C => (c_maySel (C := C) s hb0 hb1).rb q1
  rw [Bool.true_and]
  refine xIn Tryz.f66 fun E0 w0 hL hC hk => ?_
  refine xR 16 [(3, dC (k1 _) []), (7, dC (k2 _) [0])] ?_
  exact (xRetC [])
theorem c_allL (T : List Blk) (v0 v1 v2 v3 : Value) (p : Tl T v0 v1 v2) (n : Nat) (s : Nat → Sel) (v : Value) (lo : Nat) (h : Sl T 6 n (slN s) v) (hb : ∀ i, i < n → 0 ≤ (s i).net.bits ∧ (s i).net.bits ≤ 255) : Ct S0 C 72 [vV v, vV (.int .i64 (lo : Int)), vF (.func 66) [] [vP 1 0]] [tX T, tC [vV v0, vV v1, vV v2, vV v3] 26] [] [] [] (vV (.bool (allN lo n fun i => (maySelF (s i) && tlF p (s i))))) := by
 obtain ⟨base, cap, b0, o, rfl, H⟩ := h
 by_cases h1 : lo ≤ n
 ·by_cases h2 : n ≤ 64
  ·have h3 : ¬ (n : Int) < (lo : Int) := by omega
   have h4 : ¬ (n : Int) > 64 := by omega
   refine xIn Tryz.f72 fun E0 w0 hL hC hk => ?_
   refine xR 27 [(4, dF h3), (8, dF h4)] ?_
   refine xLp (fun (x : Nat) => [(20, vV (.int .i64 (x : Int)))]) (fun x => []) [21, 22, 23, 8, 24, 25, 26, 27, 6, 28] (fun x => x ≤ n ∧ ∀ i, i < x → (maySelF (s i) && tlF p (s i)) = true) (fun x => n - x) 0 ⟨Nat.zero_le _, fun i hi => absurd hi (Nat.not_lt_zero _)⟩ fun x d hx g => ?_
   by_cases q1 : (x : Int) < (n : Int)
   ·have q1' : x < n := by omega
    cases q2 : (maySelF (s x) && tlF p (s x))
    ·have kp := fun C => (c_selOk (C := C) T v0 v1 v2 v3 p (s x) (hb x q1').1 (hb x q1').2).rb q2
     have q3 : allN lo n (fun i => (maySelF (s i) && tlF p (s i))) = false := allN_no q1' q2
     refine xR 28 [(0, dT q1), (1, dIxR 54 H cap x q1'), (2, dLdR 59 0 H x q1'), (7, dC (kp _) [0, 1])] ?_
     exact xB (b' := false) q3.symm (xRetC [])
    ·have kp := fun C => (c_selOk (C := C) T v0 v1 v2 v3 p (s x) (hb x q1').1 (hb x q1').2).rb q2
     refine xR 30 [(0, dT q1), (1, dIxR 54 H cap x q1'), (2, dLdR 59 0 H x q1'), (7, dC (kp _) [0, 1]), (9, dW ((↑x : Int) + 1) ((↑(x + 1) : Int)) (by omega) (by omega) (by omega))] ?_
     exact xNx g (x + 1) [21, 22, 23, 8, 24, 25, 26, 27, 6, 28] [0, 1] (by exact ⟨by omega, fun i hi => by rcases Nat.lt_succ_iff_lt_or_eq.1 hi with h | h; exact hx.2 i h; rw [h]; assumption⟩) (by omega)
   ·have q3 : allN lo n (fun i => (maySelF (s i) && tlF p (s i))) = true := allN_yes h1 h2 fun i hi => hx.2 i (by omega)
    refine xR 11 [(0, dF q1)] ?_
    exact xB (b' := true) q3.symm (xRetC [])
  ·rw [allN_hi h2]
   have h3 : ¬ (n : Int) < (lo : Int) := by omega
   have h4 : (n : Int) > 64 := by omega
   refine xIn Tryz.f72 fun E0 w0 hL hC hk => ?_
   refine xR 22 [(4, dF h3), (8, dT h4)] ?_
   exact (xRetC [])
 ·rw [allN_lo h1]
  have h3 : (n : Int) < (lo : Int) := by omega
  refine xIn Tryz.f72 fun E0 w0 hL hC hk => ?_
  refine xR 22 [(4, dT h3)] ?_
  exact (xRetC [])
end Go.Proofs.YtbdgncndhnnjoaaGreatDoor
