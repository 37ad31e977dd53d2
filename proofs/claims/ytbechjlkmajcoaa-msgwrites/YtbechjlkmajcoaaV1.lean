/- Both sides are one: which messages may be. -/
import Derived.Test.YtbechjlkmajcoaaU2
namespace Go.Proofs.Ytbechjlkmajcoaa
open Go.RowKit

/-- The numbers of a message are in range. -/
structure okM (m : Mg) : Prop where
  ty : 0 ≤ m.ty ∧ m.ty < 256
  ix : 0 ≤ m.ix ∧ m.ix < 4294967296
  pe : 0 ≤ m.pe ∧ m.pe < 4294967296
  ct : 0 ≤ m.ct ∧ m.ct < 18446744073709551616
  ba : 0 ≤ m.ba ∧ m.ba < 18446744073709551616
  ve : 0 ≤ m.ve ∧ m.ve < 18446744073709551616
  eh : 0 ≤ m.eh ∧ m.eh < 18446744073709551616
  el : 0 ≤ m.el ∧ m.el < 18446744073709551616
  ep : 0 ≤ m.ep ∧ m.ep < 65536
  co : 0 ≤ m.co ∧ m.co < 65536
def letV : Nat → Int
  | 0 => 70
  | 1 => 84
  | 2 => 73
  | 3 => 80
  | 4 => 67
  | 5 => 66
  | 6 => 86
  | 7 => 88
  | 8 => 69
  | 9 => 75
  | 10 => 78
  | 11 => 68
  | 12 => 83
  | _ => 0
theorem ty_cases {t : Int} (h : shP t ≠ 0) : t = 1 ∨ t = 2 ∨ t = 3 ∨ t = 4 ∨ t = 5 ∨ t = 6 ∨ t = 7 ∨ t = 8 ∨ t = 9 ∨ t = 10 ∨ t = 11 ∨ t = 12 ∨ t = 13 ∨ t = 14 ∨ t = 15 ∨ t = 16 ∨ t = 17 ∨ t = 18 ∨ t = 19 ∨ t = 20 ∨ t = 21 := by
  refine Classical.byContradiction fun hn => h ?_
  simp only [not_or] at hn
  obtain ⟨h1, h2, h3, h4, h5, h6, h7, h8, h9, h10, h11, h12, h13, h14, h15, h16, h17, h18, h19, h20, h21⟩ := hn
  unfold shP
  rw [if_neg h1, if_neg h2, if_neg h3, if_neg h4, if_neg h5, if_neg h6, if_neg h7, if_neg h8, if_neg h9, if_neg h10, if_neg h11, if_neg h12, if_neg h13, if_neg h14, if_neg h15, if_neg h16, if_neg h17, if_neg h18, if_neg h19, if_neg h20, if_neg h21]
theorem fd_sh (t : Int) : fdP t = ⟨#[]⟩ ↔ shP t = 0 := by
  by_cases h : shP t = 0
  · refine ⟨fun _ => h, fun _ => ?_⟩
    refine Classical.byContradiction fun hn => ?_
    have key : fdP t ≠ ⟨#[]⟩ → shP t ≠ 0 := fun hn => by
      have : t = 1 ∨ t = 2 ∨ t = 3 ∨ t = 4 ∨ t = 5 ∨ t = 6 ∨ t = 7 ∨ t = 8 ∨ t = 9 ∨ t = 10 ∨ t = 11 ∨ t = 12 ∨ t = 13 ∨ t = 14 ∨ t = 15 ∨ t = 16 ∨ t = 17 ∨ t = 18 ∨ t = 19 ∨ t = 20 ∨ t = 21 := by
        refine Classical.byContradiction fun hx => hn ?_
        simp only [not_or] at hx
        obtain ⟨h1, h2, h3, h4, h5, h6, h7, h8, h9, h10, h11, h12, h13, h14, h15, h16, h17, h18, h19, h20, h21⟩ := hx
        unfold fdP
        rw [if_neg h1, if_neg h2, if_neg h3, if_neg h4, if_neg h5, if_neg h6, if_neg h7, if_neg h8, if_neg h9, if_neg h10, if_neg h11, if_neg h12, if_neg h13, if_neg h14, if_neg h15, if_neg h16, if_neg h17, if_neg h18, if_neg h19, if_neg h20, if_neg h21]
      rcases this with rfl | rfl | rfl | rfl | rfl | rfl | rfl | rfl | rfl | rfl | rfl | rfl | rfl | rfl | rfl | rfl | rfl | rfl | rfl | rfl | rfl <;> decide
    exact key hn h
  · refine ⟨fun e => ?_, fun e => absurd e h⟩
    exfalso
    revert e
    rcases ty_cases h with rfl | rfl | rfl | rfl | rfl | rfl | rfl | rfl | rfl | rfl | rfl | rfl | rfl | rfl | rfl | rfl | rfl | rfl | rfl | rfl | rfl <;> decide
theorem hs_bit {t : Int} (h : shP t ≠ 0) : ∀ k, k < 13 → hsP t (letV k) = !decide (yn (shP t) (bitV k) = 0) := by
  rcases ty_cases h with rfl | rfl | rfl | rfl | rfl | rfl | rfl | rfl | rfl | rfl | rfl | rfl | rfl | rfl | rfl | rfl | rfl | rfl | rfl | rfl | rfl
  all_goals decide +kernel
def stE (w l : Bool) (e : Int) : Int := if w = true then rfE e 151 else if l = true then rfE e 4 else e
def acE (w l : Bool) : Int := if w = true then 151 else if l = true then 4 else 0
theorem st_ac (w l W L : Bool) : stE w l (acE W L) = acE (W || w) (L || l) := by
  cases w <;> cases l <;> cases W <;> cases L <;> rfl
theorem cv64_0 {x : Int} (h0 : 0 ≤ x) (h1 : x < 18446744073709551616) : cv .u64 x = x := by
  rw [cv_u64]
  omega
theorem ask_0 (m : Mg) (h0 : shP m.ty ≠ 0) (e : Int) : askF (shP m.ty) e (bitV 0) (inV m 0) = stE (!txP m.ty 70 m.fr 32) false e := by
  have hb : hsP m.ty 70 = !decide (yn (shP m.ty) (bitV 0) = 0) := hs_bit h0 0 (by decide)
  unfold askF txP stE
  by_cases c : yn (shP m.ty) (bitV 0) = 0
  · rw [if_pos c, hb, decide_eq_true c]
    by_cases d : m.fr = ⟨#[]⟩ <;> simp [d, inV]
  · rw [if_neg c, hb, decide_eq_false c, if_neg (show ¬ yn (bitV 0) 4227 = 0 by decide +kernel), show szO (bitV 0) = 32 from rfl]
    by_cases d : (m.fr.size : Int) = 32
    · rw [if_pos (show ((inV m 0).t.size : Int) = 32 from d)]
      simp [d]
    · rw [if_neg (show ¬ ((inV m 0).t.size : Int) = 32 from d)]
      simp [d]
theorem ask_1 (m : Mg) (h0 : shP m.ty ≠ 0) (e : Int) : askF (shP m.ty) e (bitV 1) (inV m 1) = stE (!txP m.ty 84 m.tq 32) false e := by
  have hb : hsP m.ty 84 = !decide (yn (shP m.ty) (bitV 1) = 0) := hs_bit h0 1 (by decide)
  unfold askF txP stE
  by_cases c : yn (shP m.ty) (bitV 1) = 0
  · rw [if_pos c, hb, decide_eq_true c]
    by_cases d : m.tq = ⟨#[]⟩ <;> simp [d, inV]
  · rw [if_neg c, hb, decide_eq_false c, if_neg (show ¬ yn (bitV 1) 4227 = 0 by decide +kernel), show szO (bitV 1) = 32 from rfl]
    by_cases d : (m.tq.size : Int) = 32
    · rw [if_pos (show ((inV m 1).t.size : Int) = 32 from d)]
      simp [d]
    · rw [if_neg (show ¬ ((inV m 1).t.size : Int) = 32 from d)]
      simp [d]
theorem ask_7 (m : Mg) (h0 : shP m.ty ≠ 0) (e : Int) : askF (shP m.ty) e (bitV 7) (inV m 7) = stE (!txP m.ty 88 m.tx 16) false e := by
  have hb : hsP m.ty 88 = !decide (yn (shP m.ty) (bitV 7) = 0) := hs_bit h0 7 (by decide)
  unfold askF txP stE
  by_cases c : yn (shP m.ty) (bitV 7) = 0
  · rw [if_pos c, hb, decide_eq_true c]
    by_cases d : m.tx = ⟨#[]⟩ <;> simp [d, inV]
  · rw [if_neg c, hb, decide_eq_false c, if_neg (show ¬ yn (bitV 7) 4227 = 0 by decide +kernel), show szO (bitV 7) = 16 from rfl]
    by_cases d : (m.tx.size : Int) = 16
    · rw [if_pos (show ((inV m 7).t.size : Int) = 16 from d)]
      simp [d]
    · rw [if_neg (show ¬ ((inV m 7).t.size : Int) = 16 from d)]
      simp [d]
theorem ask_12 (m : Mg) (h0 : shP m.ty ≠ 0) (e : Int) : askF (shP m.ty) e (bitV 12) (inV m 12) = stE (!txP m.ty 83 m.sg 64) false e := by
  have hb : hsP m.ty 83 = !decide (yn (shP m.ty) (bitV 12) = 0) := hs_bit h0 12 (by decide)
  unfold askF txP stE
  by_cases c : yn (shP m.ty) (bitV 12) = 0
  · rw [if_pos c, hb, decide_eq_true c]
    by_cases d : m.sg = ⟨#[]⟩ <;> simp [d, inV]
  · rw [if_neg c, hb, decide_eq_false c, if_neg (show ¬ yn (bitV 12) 4227 = 0 by decide +kernel), show szO (bitV 12) = 64 from rfl]
    by_cases d : (m.sg.size : Int) = 64
    · rw [if_pos (show ((inV m 12).t.size : Int) = 64 from d)]
      simp [d]
    · rw [if_neg (show ¬ ((inV m 12).t.size : Int) = 64 from d)]
      simp [d]
theorem ask_2 (m : Mg) (h0 : shP m.ty ≠ 0) (hr : okM m) (e : Int) : askF (shP m.ty) e (bitV 2) (inV m 2) = stE ((!hsP m.ty 73 && !decide (m.ix = 0))) false e := by
  have hb : hsP m.ty 73 = !decide (yn (shP m.ty) (bitV 2) = 0) := hs_bit h0 2 (by decide)
  have hn : (inV m 2).n = m.ix := cv64_0 hr.ix.1 (by have := hr.ix.2; omega)
  unfold askF stE
  by_cases c : yn (shP m.ty) (bitV 2) = 0
  · rw [if_pos c, hb, decide_eq_true c, hn]
    by_cases d : m.ix = 0 <;> simp [d, inV]
  · rw [if_neg c, hb, decide_eq_false c, if_pos (show yn (bitV 2) 4227 = 0 by decide +kernel), if_neg (show ¬ bitV 2 = 256 by decide), if_pos (show yn (bitV 2) 3072 = 0 by decide +kernel)]
    simp
theorem ask_3 (m : Mg) (h0 : shP m.ty ≠ 0) (hr : okM m) (e : Int) : askF (shP m.ty) e (bitV 3) (inV m 3) = stE ((!hsP m.ty 80 && !decide (m.pe = 0))) false e := by
  have hb : hsP m.ty 80 = !decide (yn (shP m.ty) (bitV 3) = 0) := hs_bit h0 3 (by decide)
  have hn : (inV m 3).n = m.pe := cv64_0 hr.pe.1 (by have := hr.pe.2; omega)
  unfold askF stE
  by_cases c : yn (shP m.ty) (bitV 3) = 0
  · rw [if_pos c, hb, decide_eq_true c, hn]
    by_cases d : m.pe = 0 <;> simp [d, inV]
  · rw [if_neg c, hb, decide_eq_false c, if_pos (show yn (bitV 3) 4227 = 0 by decide +kernel), if_neg (show ¬ bitV 3 = 256 by decide), if_pos (show yn (bitV 3) 3072 = 0 by decide +kernel)]
    simp
theorem ask_4 (m : Mg) (h0 : shP m.ty ≠ 0) (e : Int) : askF (shP m.ty) e (bitV 4) (inV m 4) = stE ((!hsP m.ty 67 && !decide (m.ct = 0))) false e := by
  have hb : hsP m.ty 67 = !decide (yn (shP m.ty) (bitV 4) = 0) := hs_bit h0 4 (by decide)
  have hn : (inV m 4).n = m.ct := rfl
  unfold askF stE
  by_cases c : yn (shP m.ty) (bitV 4) = 0
  · rw [if_pos c, hb, decide_eq_true c, hn]
    by_cases d : m.ct = 0 <;> simp [d, inV]
  · rw [if_neg c, hb, decide_eq_false c, if_pos (show yn (bitV 4) 4227 = 0 by decide +kernel), if_neg (show ¬ bitV 4 = 256 by decide), if_pos (show yn (bitV 4) 3072 = 0 by decide +kernel)]
    simp
theorem ask_5 (m : Mg) (h0 : shP m.ty ≠ 0) (e : Int) : askF (shP m.ty) e (bitV 5) (inV m 5) = stE ((!hsP m.ty 66 && !decide (m.ba = 0))) false e := by
  have hb : hsP m.ty 66 = !decide (yn (shP m.ty) (bitV 5) = 0) := hs_bit h0 5 (by decide)
  have hn : (inV m 5).n = m.ba := rfl
  unfold askF stE
  by_cases c : yn (shP m.ty) (bitV 5) = 0
  · rw [if_pos c, hb, decide_eq_true c, hn]
    by_cases d : m.ba = 0 <;> simp [d, inV]
  · rw [if_neg c, hb, decide_eq_false c, if_pos (show yn (bitV 5) 4227 = 0 by decide +kernel), if_neg (show ¬ bitV 5 = 256 by decide), if_pos (show yn (bitV 5) 3072 = 0 by decide +kernel)]
    simp
theorem ask_6 (m : Mg) (h0 : shP m.ty ≠ 0) (e : Int) : askF (shP m.ty) e (bitV 6) (inV m 6) = stE ((!hsP m.ty 86 && !decide (m.ve = 0))) false e := by
  have hb : hsP m.ty 86 = !decide (yn (shP m.ty) (bitV 6) = 0) := hs_bit h0 6 (by decide)
  have hn : (inV m 6).n = m.ve := rfl
  unfold askF stE
  by_cases c : yn (shP m.ty) (bitV 6) = 0
  · rw [if_pos c, hb, decide_eq_true c, hn]
    by_cases d : m.ve = 0 <;> simp [d, inV]
  · rw [if_neg c, hb, decide_eq_false c, if_pos (show yn (bitV 6) 4227 = 0 by decide +kernel), if_neg (show ¬ bitV 6 = 256 by decide), if_pos (show yn (bitV 6) 3072 = 0 by decide +kernel)]
    simp
theorem ask_9 (m : Mg) (h0 : shP m.ty ≠ 0) (hr : okM m) (e : Int) : askF (shP m.ty) e (bitV 9) (inV m 9) = stE ((!hsP m.ty 75 && !decide (m.co = 0))) false e := by
  have hb : hsP m.ty 75 = !decide (yn (shP m.ty) (bitV 9) = 0) := hs_bit h0 9 (by decide)
  have hn : (inV m 9).n = m.co := cv64_0 hr.co.1 (by have := hr.co.2; omega)
  unfold askF stE
  by_cases c : yn (shP m.ty) (bitV 9) = 0
  · rw [if_pos c, hb, decide_eq_true c, hn]
    by_cases d : m.co = 0 <;> simp [d, inV]
  · rw [if_neg c, hb, decide_eq_false c, if_pos (show yn (bitV 9) 4227 = 0 by decide +kernel), if_neg (show ¬ bitV 9 = 256 by decide), if_pos (show yn (bitV 9) 3072 = 0 by decide +kernel)]
    simp
theorem ask_8 (m : Mg) (h0 : shP m.ty ≠ 0) (e : Int) : askF (shP m.ty) e (bitV 8) (inV m 8) = stE ((!hsP m.ty 69 && !decide (m.ev = false ∧ m.eh = 0 ∧ m.el = 0 ∧ m.ep = 0)) || !mA m.ev m.eh m.el) false e := by
  have hb : hsP m.ty 69 = !decide (yn (shP m.ty) (bitV 8) = 0) := hs_bit h0 8 (by decide)
  unfold askF stE
  by_cases c : yn (shP m.ty) (bitV 8) = 0
  · rw [if_pos c, hb, decide_eq_true c]
    by_cases d : m.ev = false ∧ m.eh = 0 ∧ m.el = 0 ∧ m.ep = 0
    · obtain ⟨d1, d2, d3, d4⟩ := d
      simp [d1, d2, d3, d4, inV, mA]
    · rw [if_neg (fun x => d ⟨x.2.2.1, x.2.2.2.1, x.2.2.2.2.1, x.2.2.2.2.2⟩), decide_eq_false d]
      simp
  · rw [if_neg c, hb, decide_eq_false c, if_pos (show yn (bitV 8) 4227 = 0 by decide +kernel), if_pos (show bitV 8 = 256 from rfl)]
    cases hm : mA m.ev m.eh m.el
    · rw [if_neg (show ¬ mA (inV m 8).v (inV m 8).h (inV m 8).l = true by show ¬ mA m.ev m.eh m.el = true; rw [hm]; decide)]
      simp
    · rw [if_pos (show mA (inV m 8).v (inV m 8).h (inV m 8).l = true from hm)]
      simp
theorem ask_10 (m : Mg) (h0 : shP m.ty ≠ 0) (e : Int) : askF (shP m.ty) e (bitV 10) (inV m 10) = stE (!hsP m.ty 78 && !decide (m.tt = ⟨#[]⟩)) (hsP m.ty 78 && decide (64 < (m.tt.size : Int))) e := by
  have hb : hsP m.ty 78 = !decide (yn (shP m.ty) (bitV 10) = 0) := hs_bit h0 10 (by decide)
  unfold askF stE
  by_cases c : yn (shP m.ty) (bitV 10) = 0
  · rw [if_pos c, hb, decide_eq_true c]
    by_cases d : m.tt = ⟨#[]⟩ <;> simp [d, inV]
  · rw [if_neg c, hb, decide_eq_false c, if_pos (show yn (bitV 10) 4227 = 0 by decide +kernel), if_neg (show ¬ bitV 10 = 256 by decide), if_neg (show ¬ yn (bitV 10) 3072 = 0 by decide +kernel), show moO (bitV 10) = 64 from rfl]
    by_cases d : 64 < (m.tt.size : Int)
    · rw [if_pos (show 64 < ((inV m 10).t.size : Int) from d)]
      simp [d]
    · rw [if_neg (show ¬ 64 < ((inV m 10).t.size : Int) from d)]
      simp [d]
theorem ask_11 (m : Mg) (h0 : shP m.ty ≠ 0) (e : Int) : askF (shP m.ty) e (bitV 11) (inV m 11) = stE (!hsP m.ty 68 && !decide (m.da = ⟨#[]⟩)) (hsP m.ty 68 && decide (32768 < (m.da.size : Int))) e := by
  have hb : hsP m.ty 68 = !decide (yn (shP m.ty) (bitV 11) = 0) := hs_bit h0 11 (by decide)
  unfold askF stE
  by_cases c : yn (shP m.ty) (bitV 11) = 0
  · rw [if_pos c, hb, decide_eq_true c]
    by_cases d : m.da = ⟨#[]⟩ <;> simp [d, inV]
  · rw [if_neg c, hb, decide_eq_false c, if_pos (show yn (bitV 11) 4227 = 0 by decide +kernel), if_neg (show ¬ bitV 11 = 256 by decide), if_neg (show ¬ yn (bitV 11) 3072 = 0 by decide +kernel), show moO (bitV 11) = 32768 from rfl]
    by_cases d : 32768 < (m.da.size : Int)
    · rw [if_pos (show 32768 < ((inV m 11).t.size : Int) from d)]
      simp [d]
    · rw [if_neg (show ¬ 32768 < ((inV m 11).t.size : Int) from d)]
      simp [d]
theorem askS_ac (m : Mg) (h0 : shP m.ty ≠ 0) (hr : okM m) : askS m (shP m.ty) 13 = acE (((((((((((((false || (!txP m.ty 70 m.fr 32)) || (!txP m.ty 84 m.tq 32)) || ((!hsP m.ty 73 && !decide (m.ix = 0)))) || ((!hsP m.ty 80 && !decide (m.pe = 0)))) || ((!hsP m.ty 67 && !decide (m.ct = 0)))) || ((!hsP m.ty 66 && !decide (m.ba = 0)))) || ((!hsP m.ty 86 && !decide (m.ve = 0)))) || (!txP m.ty 88 m.tx 16)) || (((!hsP m.ty 69 && !decide (m.ev = false ∧ m.eh = 0 ∧ m.el = 0 ∧ m.ep = 0)) || !mA m.ev m.eh m.el))) || ((!hsP m.ty 75 && !decide (m.co = 0)))) || ((!hsP m.ty 78 && !decide (m.tt = ⟨#[]⟩)))) || ((!hsP m.ty 68 && !decide (m.da = ⟨#[]⟩)))) || (!txP m.ty 83 m.sg 64)) (((((((((((((false || false) || false) || false) || false) || false) || false) || false) || false) || false) || false) || (hsP m.ty 78 && decide (64 < (m.tt.size : Int)))) || (hsP m.ty 68 && decide (32768 < (m.da.size : Int)))) || false) := by
  have e0 : askS m (shP m.ty) 0 = acE false false := rfl
  have e1 : askS m (shP m.ty) 1 = acE (false || (!txP m.ty 70 m.fr 32)) (false || false) := by
    show askF (shP m.ty) (askS m (shP m.ty) 0) (bitV 0) (inV m 0) = _
    rw [e0, ask_0 m h0, st_ac]
  have e2 : askS m (shP m.ty) 2 = acE ((false || (!txP m.ty 70 m.fr 32)) || (!txP m.ty 84 m.tq 32)) ((false || false) || false) := by
    show askF (shP m.ty) (askS m (shP m.ty) 1) (bitV 1) (inV m 1) = _
    rw [e1, ask_1 m h0, st_ac]
  have e3 : askS m (shP m.ty) 3 = acE (((false || (!txP m.ty 70 m.fr 32)) || (!txP m.ty 84 m.tq 32)) || ((!hsP m.ty 73 && !decide (m.ix = 0)))) (((false || false) || false) || false) := by
    show askF (shP m.ty) (askS m (shP m.ty) 2) (bitV 2) (inV m 2) = _
    rw [e2, ask_2 m h0 hr, st_ac]
  have e4 : askS m (shP m.ty) 4 = acE ((((false || (!txP m.ty 70 m.fr 32)) || (!txP m.ty 84 m.tq 32)) || ((!hsP m.ty 73 && !decide (m.ix = 0)))) || ((!hsP m.ty 80 && !decide (m.pe = 0)))) ((((false || false) || false) || false) || false) := by
    show askF (shP m.ty) (askS m (shP m.ty) 3) (bitV 3) (inV m 3) = _
    rw [e3, ask_3 m h0 hr, st_ac]
  have e5 : askS m (shP m.ty) 5 = acE (((((false || (!txP m.ty 70 m.fr 32)) || (!txP m.ty 84 m.tq 32)) || ((!hsP m.ty 73 && !decide (m.ix = 0)))) || ((!hsP m.ty 80 && !decide (m.pe = 0)))) || ((!hsP m.ty 67 && !decide (m.ct = 0)))) (((((false || false) || false) || false) || false) || false) := by
    show askF (shP m.ty) (askS m (shP m.ty) 4) (bitV 4) (inV m 4) = _
    rw [e4, ask_4 m h0, st_ac]
  have e6 : askS m (shP m.ty) 6 = acE ((((((false || (!txP m.ty 70 m.fr 32)) || (!txP m.ty 84 m.tq 32)) || ((!hsP m.ty 73 && !decide (m.ix = 0)))) || ((!hsP m.ty 80 && !decide (m.pe = 0)))) || ((!hsP m.ty 67 && !decide (m.ct = 0)))) || ((!hsP m.ty 66 && !decide (m.ba = 0)))) ((((((false || false) || false) || false) || false) || false) || false) := by
    show askF (shP m.ty) (askS m (shP m.ty) 5) (bitV 5) (inV m 5) = _
    rw [e5, ask_5 m h0, st_ac]
  have e7 : askS m (shP m.ty) 7 = acE (((((((false || (!txP m.ty 70 m.fr 32)) || (!txP m.ty 84 m.tq 32)) || ((!hsP m.ty 73 && !decide (m.ix = 0)))) || ((!hsP m.ty 80 && !decide (m.pe = 0)))) || ((!hsP m.ty 67 && !decide (m.ct = 0)))) || ((!hsP m.ty 66 && !decide (m.ba = 0)))) || ((!hsP m.ty 86 && !decide (m.ve = 0)))) (((((((false || false) || false) || false) || false) || false) || false) || false) := by
    show askF (shP m.ty) (askS m (shP m.ty) 6) (bitV 6) (inV m 6) = _
    rw [e6, ask_6 m h0, st_ac]
  have e8 : askS m (shP m.ty) 8 = acE ((((((((false || (!txP m.ty 70 m.fr 32)) || (!txP m.ty 84 m.tq 32)) || ((!hsP m.ty 73 && !decide (m.ix = 0)))) || ((!hsP m.ty 80 && !decide (m.pe = 0)))) || ((!hsP m.ty 67 && !decide (m.ct = 0)))) || ((!hsP m.ty 66 && !decide (m.ba = 0)))) || ((!hsP m.ty 86 && !decide (m.ve = 0)))) || (!txP m.ty 88 m.tx 16)) ((((((((false || false) || false) || false) || false) || false) || false) || false) || false) := by
    show askF (shP m.ty) (askS m (shP m.ty) 7) (bitV 7) (inV m 7) = _
    rw [e7, ask_7 m h0, st_ac]
  have e9 : askS m (shP m.ty) 9 = acE (((((((((false || (!txP m.ty 70 m.fr 32)) || (!txP m.ty 84 m.tq 32)) || ((!hsP m.ty 73 && !decide (m.ix = 0)))) || ((!hsP m.ty 80 && !decide (m.pe = 0)))) || ((!hsP m.ty 67 && !decide (m.ct = 0)))) || ((!hsP m.ty 66 && !decide (m.ba = 0)))) || ((!hsP m.ty 86 && !decide (m.ve = 0)))) || (!txP m.ty 88 m.tx 16)) || (((!hsP m.ty 69 && !decide (m.ev = false ∧ m.eh = 0 ∧ m.el = 0 ∧ m.ep = 0)) || !mA m.ev m.eh m.el))) (((((((((false || false) || false) || false) || false) || false) || false) || false) || false) || false) := by
    show askF (shP m.ty) (askS m (shP m.ty) 8) (bitV 8) (inV m 8) = _
    rw [e8, ask_8 m h0, st_ac]
  have e10 : askS m (shP m.ty) 10 = acE ((((((((((false || (!txP m.ty 70 m.fr 32)) || (!txP m.ty 84 m.tq 32)) || ((!hsP m.ty 73 && !decide (m.ix = 0)))) || ((!hsP m.ty 80 && !decide (m.pe = 0)))) || ((!hsP m.ty 67 && !decide (m.ct = 0)))) || ((!hsP m.ty 66 && !decide (m.ba = 0)))) || ((!hsP m.ty 86 && !decide (m.ve = 0)))) || (!txP m.ty 88 m.tx 16)) || (((!hsP m.ty 69 && !decide (m.ev = false ∧ m.eh = 0 ∧ m.el = 0 ∧ m.ep = 0)) || !mA m.ev m.eh m.el))) || ((!hsP m.ty 75 && !decide (m.co = 0)))) ((((((((((false || false) || false) || false) || false) || false) || false) || false) || false) || false) || false) := by
    show askF (shP m.ty) (askS m (shP m.ty) 9) (bitV 9) (inV m 9) = _
    rw [e9, ask_9 m h0 hr, st_ac]
  have e11 : askS m (shP m.ty) 11 = acE (((((((((((false || (!txP m.ty 70 m.fr 32)) || (!txP m.ty 84 m.tq 32)) || ((!hsP m.ty 73 && !decide (m.ix = 0)))) || ((!hsP m.ty 80 && !decide (m.pe = 0)))) || ((!hsP m.ty 67 && !decide (m.ct = 0)))) || ((!hsP m.ty 66 && !decide (m.ba = 0)))) || ((!hsP m.ty 86 && !decide (m.ve = 0)))) || (!txP m.ty 88 m.tx 16)) || (((!hsP m.ty 69 && !decide (m.ev = false ∧ m.eh = 0 ∧ m.el = 0 ∧ m.ep = 0)) || !mA m.ev m.eh m.el))) || ((!hsP m.ty 75 && !decide (m.co = 0)))) || ((!hsP m.ty 78 && !decide (m.tt = ⟨#[]⟩)))) (((((((((((false || false) || false) || false) || false) || false) || false) || false) || false) || false) || false) || (hsP m.ty 78 && decide (64 < (m.tt.size : Int)))) := by
    show askF (shP m.ty) (askS m (shP m.ty) 10) (bitV 10) (inV m 10) = _
    rw [e10, ask_10 m h0, st_ac]
  have e12 : askS m (shP m.ty) 12 = acE ((((((((((((false || (!txP m.ty 70 m.fr 32)) || (!txP m.ty 84 m.tq 32)) || ((!hsP m.ty 73 && !decide (m.ix = 0)))) || ((!hsP m.ty 80 && !decide (m.pe = 0)))) || ((!hsP m.ty 67 && !decide (m.ct = 0)))) || ((!hsP m.ty 66 && !decide (m.ba = 0)))) || ((!hsP m.ty 86 && !decide (m.ve = 0)))) || (!txP m.ty 88 m.tx 16)) || (((!hsP m.ty 69 && !decide (m.ev = false ∧ m.eh = 0 ∧ m.el = 0 ∧ m.ep = 0)) || !mA m.ev m.eh m.el))) || ((!hsP m.ty 75 && !decide (m.co = 0)))) || ((!hsP m.ty 78 && !decide (m.tt = ⟨#[]⟩)))) || ((!hsP m.ty 68 && !decide (m.da = ⟨#[]⟩)))) ((((((((((((false || false) || false) || false) || false) || false) || false) || false) || false) || false) || false) || (hsP m.ty 78 && decide (64 < (m.tt.size : Int)))) || (hsP m.ty 68 && decide (32768 < (m.da.size : Int)))) := by
    show askF (shP m.ty) (askS m (shP m.ty) 11) (bitV 11) (inV m 11) = _
    rw [e11, ask_11 m h0, st_ac]
  have e13 : askS m (shP m.ty) 13 = acE (((((((((((((false || (!txP m.ty 70 m.fr 32)) || (!txP m.ty 84 m.tq 32)) || ((!hsP m.ty 73 && !decide (m.ix = 0)))) || ((!hsP m.ty 80 && !decide (m.pe = 0)))) || ((!hsP m.ty 67 && !decide (m.ct = 0)))) || ((!hsP m.ty 66 && !decide (m.ba = 0)))) || ((!hsP m.ty 86 && !decide (m.ve = 0)))) || (!txP m.ty 88 m.tx 16)) || (((!hsP m.ty 69 && !decide (m.ev = false ∧ m.eh = 0 ∧ m.el = 0 ∧ m.ep = 0)) || !mA m.ev m.eh m.el))) || ((!hsP m.ty 75 && !decide (m.co = 0)))) || ((!hsP m.ty 78 && !decide (m.tt = ⟨#[]⟩)))) || ((!hsP m.ty 68 && !decide (m.da = ⟨#[]⟩)))) || (!txP m.ty 83 m.sg 64)) (((((((((((((false || false) || false) || false) || false) || false) || false) || false) || false) || false) || false) || (hsP m.ty 78 && decide (64 < (m.tt.size : Int)))) || (hsP m.ty 68 && decide (32768 < (m.da.size : Int)))) || false) := by
    show askF (shP m.ty) (askS m (shP m.ty) 12) (bitV 12) (inV m 12) = _
    rw [e12, ask_12 m h0, st_ac]
  exact e13
/-- Both sides say the same of every message. -/
theorem mE_dE (m : Mg) (hr : okM m) : mE m = dE m := by
  unfold mE dE
  by_cases h0 : shP m.ty = 0
  · rw [if_pos h0, if_pos ((fd_sh _).2 h0)]
  · rw [if_neg h0, if_neg (fun e => h0 ((fd_sh _).1 e)), askS_ac m h0 hr]
    have hW : (((((((((((((false || (!txP m.ty 70 m.fr 32)) || (!txP m.ty 84 m.tq 32)) || ((!hsP m.ty 73 && !decide (m.ix = 0)))) || ((!hsP m.ty 80 && !decide (m.pe = 0)))) || ((!hsP m.ty 67 && !decide (m.ct = 0)))) || ((!hsP m.ty 66 && !decide (m.ba = 0)))) || ((!hsP m.ty 86 && !decide (m.ve = 0)))) || (!txP m.ty 88 m.tx 16)) || (((!hsP m.ty 69 && !decide (m.ev = false ∧ m.eh = 0 ∧ m.el = 0 ∧ m.ep = 0)) || !mA m.ev m.eh m.el))) || ((!hsP m.ty 75 && !decide (m.co = 0)))) || ((!hsP m.ty 78 && !decide (m.tt = ⟨#[]⟩)))) || ((!hsP m.ty 68 && !decide (m.da = ⟨#[]⟩)))) || (!txP m.ty 83 m.sg 64)) = ((dA4 m || dB_6 m) || dC4 m) := by
      simp only [dA4, dA3, dA2, dA1, dB_6, dB_5, dB_4, dB_3, dB_2, dB_1, dC4, dC3, dC2, dC1, Bool.false_or]
      ac_rfl
    rw [hW]
    cases a1 : dA4 m
    · cases a2 : dB_6 m
      · cases a3 : dC4 m
        · have c1 : (!hsP m.ty 78 && !decide (m.tt = ⟨#[]⟩)) = false ∧ (!hsP m.ty 68 && !decide (m.da = ⟨#[]⟩)) = false := by
            simp only [dC4, dC3, dC2, dC1, Bool.or_eq_false_iff] at a3
            exact ⟨a3.1.1.1, a3.1.1.2⟩
          have k1 : (hsP m.ty 78 && decide (64 < (m.tt.size : Int))) = decide (64 < (m.tt.size : Int)) := by
            cases hh : hsP m.ty 78
            · have : m.tt = ⟨#[]⟩ := by simpa [hh] using c1.1
              rw [this]
              rfl
            · rfl
          have k2 : (hsP m.ty 68 && decide (32768 < (m.da.size : Int))) = decide (32768 < (m.da.size : Int)) := by
            cases hh : hsP m.ty 68
            · have : m.da = ⟨#[]⟩ := by simpa [hh] using c1.2
              rw [this]
              rfl
            · rfl
          rw [k1, k2]
          by_cases d1 : 64 < (m.tt.size : Int)
          · simp [acE, d1]
          · by_cases d2 : 32768 < (m.da.size : Int) <;> simp [acE, d1, d2]
        · simp [acE]
      · simp [acE]
    · simp [acE]

end Go.Proofs.Ytbechjlkmajcoaa
