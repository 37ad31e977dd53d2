/- Those go whose time has come: the list is made shorter. -/
import Derived.Test.YtlfekknonjlopaaG4
import Derived.Test.YtlfekknonjlopaaXY
namespace Go.Proofs.Ytlfekknonjlopaa
open Go.RowKit
set_option linter.unusedVariables false
set_option linter.unusedSimpArgs false
set_option maxHeartbeats 0
set_option maxRecDepth 100000
variable {C : World → Prop}
def msR (now : Int) (L : List (Nat × Liv)) (ms : List (Flw × Value × Nat)) : Nat → List (Flw × Value × Nat)
  | 0 => ms
  | x + 1 => if al now (L.getD x lv0) = true then msR now L ms x else rmM (L.getD x lv0).2.f (msR now L ms x)
def kc (now : Int) (L : List (Nat × Liv)) : Nat → Nat
  | 0 => 0
  | x + 1 => if al now (L.getD x lv0) = true then kc now L x + 1 else kc now L x
def Zs (now : Int) (L : List (Nat × Liv)) (Z : List Value) : Nat → List Value
  | 0 => Z
  | x + 1 => if al now (L.getD x lv0) = true then (Zs now L Z x).set (kc now L x) (.pointer (some ⟨(L.getD x lv0).1, 0, none⟩)) else Zs now L Z x
theorem kc_le (now : Int) (L : List (Nat × Liv)) : ∀ x, kc now L x ≤ x
  | 0 => Nat.le_refl _
  | x + 1 => by
    have := kc_le now L x
    unfold kc
    split <;> omega
theorem kc_all {now : Int} {L : List (Nat × Liv)} : ∀ {k : Nat}, (∀ i, i < k → al now (L.getD i lv0) = true) → kc now L k = k
  | 0, _ => rfl
  | k + 1, h => by
    unfold kc
    rw [if_pos (h k (by omega)), kc_all fun i hi => h i (by omega)]
theorem ms_all {now : Int} {L : List (Nat × Liv)} {ms : List (Flw × Value × Nat)} : ∀ {k : Nat}, (∀ i, i < k → al now (L.getD i lv0) = true) → msR now L ms k = ms
  | 0, _ => rfl
  | k + 1, h => by
    unfold msR
    rw [if_pos (h k (by omega)), ms_all fun i hi => h i (by omega)]
theorem kc_lt {now : Int} {L : List (Nat × Liv)} {k : Nat} (h : al now (L.getD k lv0) = false) : ∀ x, k < x → kc now L x + 1 ≤ x
  | 0, h0 => by omega
  | x + 1, h0 => by
    unfold kc
    by_cases e : x = k
    · subst e
      rw [if_neg (by rw [h]; exact Bool.false_ne_true)]
      have := kc_le now L x
      omega
    · have := kc_lt h x (by omega)
      split <;> omega
theorem zs_len (now : Int) (L : List (Nat × Liv)) (Z : List Value) : ∀ x, (Zs now L Z x).length = Z.length
  | 0 => rfl
  | x + 1 => by
    unfold Zs
    split
    · rw [List.length_set, zs_len now L Z x]
    · exact zs_len now L Z x
theorem zs_at (now : Int) (L : List (Nat × Liv)) (Z : List Value) : ∀ (x j : Nat), x ≤ j → (Zs now L Z x)[j]? = Z[j]?
  | 0, _, _ => rfl
  | x + 1, j, h => by
    have := kc_le now L x
    unfold Zs
    split
    · rw [List.getElem?_set, if_neg (by omega), zs_at now L Z x j (by omega)]
    · exact zs_at now L Z x j (by omega)
theorem zs_all {now : Int} {L : List (Nat × Liv)} {Z : List Value} (hz : ∀ i, i < L.length → Z[i]? = some (.pointer (some ⟨(L.getD i lv0).1, 0, none⟩))) : ∀ {k : Nat}, k ≤ L.length → (∀ i, i < k → al now (L.getD i lv0) = true) → Zs now L Z k = Z
  | 0, _, _ => rfl
  | k + 1, hk, h => by
    unfold Zs
    rw [if_pos (h k (by omega)), zs_all hz (by omega) fun i hi => h i (by omega), kc_all fun i hi => h i (by omega)]
    apply List.ext_getElem?
    intro j
    rw [List.getElem?_set]
    split
    · rename_i e
      subst e
      have := hz k (by omega)
      rw [this]
      have hl := (List.getElem?_eq_some_iff.1 this).1
      rw [if_pos hl]
    · rfl
/-- An element's place, one cell each. -/
def dIxP (t : TypeId) (g n cap i : Nat) (h : i < n) (hu : Try.prog.underlying t = some (.slice (Try.prog.elem t)) := by kernel_rfl) (h0 : (Try.prog.info? (Try.prog.elem t)).map (·.size) = some 1 := by kernel_rfl) : Dr S0 C :=
  dRd (oOp 4 t 0 [] [vV (.slice (some ⟨g, 0, none⟩) n cap), vV (.int .i64 (i : Int))]) (vV (.pointer (some ⟨g, i, none⟩))) fun _ w _ _ => by
    exact run_ixsl (a := none) hu (by cases hh : Try.prog.info? (Try.prog.elem t) with | none => rw [hh] at h0; cases h0 | some i => rfl) h (by unfold sizeT; rw [h0]; show i = 0 + i * 1; omega)
def endZ (now : Int) (L : List (Nat × Liv)) (Z : List Value) : List Value := (Zs now L Z L.length).take (kc now L L.length * 1) ++ (List.replicate (L.length - kc now L L.length) (.pointer none) ++ (Zs now L Z L.length).drop (kc now L L.length * 1 + (L.length - kc now L L.length)))
theorem c_del1 (ga gm gl : Nat) (lv : Value) (most life now : Int) (Tv : List Blk) (L : List (Nat × Liv)) (cap : Nat) (Z : List Value) (ms : List (Flw × Value × Nat)) (clock : Nat) (hz : ∀ i, i < L.length → Z[i]? = some (.pointer (some ⟨(L.getD i lv0).1, 0, none⟩))) (hcap : L.length ≤ cap) (hZ : Z.length = cap) (hm : ∀ x, x < L.length → livB (L.getD x lv0).1 (L.getD x lv0).2 ∈ Tv) (hl : L.length < 100000) (k : Nat) (hk1 : k < L.length) (q0 : ∀ i, i < k → al now (L.getD i lv0) = true) (q1 : al now (L.getD k lv0) = false) (q2 : ∀ x, x < L.length → ∃ v, lkM (L.getD x lv0).2.f (msR now L ms x) = some v) :
    Ct S0 C 56 [vV (.slice (some ⟨gl, 0, none⟩) L.length cap), gFn] [tC [vV (.pointer (some ⟨ga, 0, none⟩))] 68, tX [ansB ga gm lv most life now], tX Tv] [tX [mapB gm ms clock], tX [⟨gl, .cells Z.toArray 89 (0, 0)⟩]] [tX [mapB gm (msR now L ms L.length) clock], tX [⟨gl, .cells (endZ now L Z).toArray 89 (0, 0)⟩]] [] (vV (.slice (some ⟨gl, 0, none⟩) (kc now L L.length) cap)) := by
  refine xIn Try.f56 fun E0 w0 hL hC hk => ?_
  obtain ⟨v, q3⟩ := q2 k hk1
  rw [ms_all q0] at q3
  have q4 : msR now L ms (k + 1) = rmM (L.getD k lv0).2.f ms := by rw [msR, if_neg (by rw [q1]; exact Bool.false_ne_true), ms_all q0]
  have q5 : kc now L (k + 1) = k := by rw [kc, if_neg (by rw [q1]; exact Bool.false_ne_true), kc_all q0]
  have q6 : Zs now L Z (k + 1) = Z := by rw [Zs, if_neg (by rw [q1]; exact Bool.false_ne_true), zs_all hz (by omega) q0]
  have H : SlO [⟨gl, .cells Z.toArray 89 (0, 0)⟩] 1 L.length (pF L) (some ⟨gl, 0, none⟩) gl 0 := fun _ => ⟨rfl, Z.toArray, 89, (0, 0), by simp, fun i j hi hj => by
    have hj : j = 0 := by omega
    subst hj
    rw [Nat.zero_add, Nat.mul_one, Nat.add_zero, List.getElem?_toArray, hz i hi]⟩
  have q7 : ¬ (k : Int) = -1 := by omega
  refine xR 9 [(3, dC (c_idx1 ga gm gl lv most life now [⟨gl, .cells Z.toArray 89 (0, 0)⟩] Tv L (some ⟨gl, 0, none⟩) cap ms clock H hm hl k hk1 q0 q1 v q3) [0, 1, 2, 4, 3])] ?_
  refine xR 18 [(4, dW ((k : Int) + 1) ((k + 1 : Nat) : Int) (by omega) (by omega) (by omega))] ?_
  refine xLp (α := Nat × Nat × List Value × List (Flw × Value × Nat)) (fun x => [(6, vV (.int .i64 (x.1 : Int))), (5, vV (.int .i64 (x.2.1 : Int)))]) (fun x => [(3, tX [mapB gm x.2.2.2 clock]), (4, tX [⟨gl, .cells x.2.2.1.toArray 89 (0, 0)⟩])]) [16, 17, 18, 19, 22, 23, 24, 25, 7, 26, 27, 28, 29, 30, 31, 32, 33, 34, 35, 20, 21] (fun x => k < x.1 ∧ x.1 ≤ L.length ∧ x.2.1 = kc now L x.1 ∧ x.2.2.1 = Zs now L Z x.1 ∧ x.2.2.2 = msR now L ms x.1) (fun x => L.length - x.1) (k + 1, k, Z, rmM (L.getD k lv0).2.f ms) ⟨by show k < k + 1; omega, by show k + 1 ≤ _; omega, q5.symm, q6.symm, q4.symm⟩ fun x d hx g => ?_
  obtain ⟨x, n, Zx, mx⟩ := x
  obtain ⟨hx1, hx2, hx3, hx4, hx5⟩ := hx
  simp only at hx1 hx2 hx3 hx4 hx5
  have q8 := kc_lt q1 x hx1
  have hzl : Zx.length = cap := by rw [hx4, zs_len now L Z x, hZ]
  by_cases q9 : (x : Int) < (L.length : Int)
  · have hm3 : (⟨(L.getD x lv0).1, .cells (lvC (L.getD x lv0).2).toArray 55 (0, 0)⟩ : Blk) ∈ Tv := hm x (by omega)
    have hzx : Zx[x]? = some (.pointer (some ⟨(L.getD x lv0).1, 0, none⟩)) := by rw [hx4, zs_at now L Z x x (Nat.le_refl _), hz x (by omega)]
    by_cases q10 : (L.getD x lv0).2.u > now
    · have q11 : al now (L.getD x lv0) = true := decide_eq_true q10
      refine xR 19 [(3, dT q9), (6, dIxP 86 gl L.length cap x (by omega)), (7, dLdX 89 4 [⟨gl, .cells Zx.toArray 89 (0, 0)⟩] gl x Zx 89 _ (List.mem_singleton.2 rfl) hzx)] ?_
      refine xR 16 [(2, dC (c_goes0 ga gm ((L.getD x lv0).fst) lv most life now Tv _ q10 hm3) [0, 1, 2]), (7, dIxP 86 gl L.length cap n (by omega)), (8, dStX 89 4 [] [] gl n Zx 89 (.pointer (some ⟨(L.getD x lv0).1, 0, none⟩)) (by omega))] ?_
      refine xR 12 [(1, dW ((n : Int) + 1) ((n + 1 : Nat) : Int) (by omega) (by omega) (by omega)), (4, dW ((x : Int) + 1) ((x + 1 : Nat) : Int) (by omega) (by omega) (by omega))] ?_
      exact xNx g (x + 1, n + 1, Zx.set n (.pointer (some ⟨(L.getD x lv0).1, 0, none⟩)), mx) [16, 17, 18, 19, 22, 23, 24, 25, 7, 26, 27, 28, 29, 30, 31, 32, 33, 34, 35, 20, 21] [0, 1, 2, 3, 4] ⟨by show k < x + 1; omega, by show x + 1 ≤ _; omega, by show n + 1 = _; rw [kc, if_pos q11, hx3], by show Zx.set n _ = _; rw [Zs, if_pos q11, hx4, hx3], by show mx = _; rw [msR, if_pos q11, hx5]⟩ (by show L.length - (x + 1) < L.length - x; omega)
    · have q11 : ¬ al now (L.getD x lv0) = true := fun h => q10 (of_decide_eq_true h)
      obtain ⟨v', q12⟩ := q2 x (by omega)
      rw [← hx5] at q12
      refine xR 19 [(3, dT q9), (6, dIxP 86 gl L.length cap x (by omega)), (7, dLdX 89 4 [⟨gl, .cells Zx.toArray 89 (0, 0)⟩] gl x Zx 89 _ (List.mem_singleton.2 rfl) hzx)] ?_
      refine xR 16 [(2, dC (c_goes1 ga gm ((L.getD x lv0).fst) lv most life now Tv _ ((x, n, Zx, mx).snd.snd.snd) clock q10 hm3 _ q12) [0, 1, 2, 3]), (5, dW ((↑(x, n, Zx, mx).fst : Int) + 1) ((↑((x, n, Zx, mx).fst + 1) : Int)) (by omega) (by omega) (by omega))] ?_
      exact xNx g (x + 1, n, Zx, rmM (L.getD x lv0).2.f mx) [16, 17, 18, 19, 22, 23, 24, 25, 7, 26, 27, 28, 29, 30, 31, 32, 33, 34, 35, 20, 21] [0, 1, 2, 3, 4] ⟨by show k < x + 1; omega, by show x + 1 ≤ _; omega, by show n = _; rw [kc, if_neg q11, hx3], by show Zx = _; rw [Zs, if_neg q11, hx4], by show rmM _ mx = _; rw [msR, if_neg q11, hx5]⟩ (by show L.length - (x + 1) < L.length - x; omega)
  · have q11 : x = L.length := by omega
    subst q11
    subst hx3 hx4 hx5
    have q13 := kc_le now L L.length
    refine xR 14 [(3, dF q9)] ?_
    refine xR 2 [(0, dSlLo 86 1 gl L.length cap (kc now L L.length) (by omega) (by omega)), (1, dClr 86 0 4 [] [] gl (kc now L L.length * 1) (L.length - kc now L L.length) (cap - kc now L L.length) (Zs now L Z L.length) 89 (.pointer none) (by omega) (by omega))] ?_
    refine xR 6 [(2, dSlHi 86 gl L.length cap (kc now L L.length) (by omega) (by omega))] ?_
    refine xR 2 [] ?_
    exact (xRetC [])
theorem c_del2 (ga gm gl : Nat) (lv : Value) (most life now : Int) (Tl Tv : List Blk) (L : List (Nat × Liv)) (base : Option Addr) (cap : Nat) (H : SlO Tl 1 L.length (pF L) base gl 0) (hm : ∀ x, x < L.length → livB (L.getD x lv0).1 (L.getD x lv0).2 ∈ Tv) (hl : L.length < 100000) (q0 : ∀ i, i < L.length → al now (L.getD i lv0) = true) :
    Ct S0 C 56 [vV (.slice base L.length cap), gFn] [tC [vV (.pointer (some ⟨ga, 0, none⟩))] 68, tX [ansB ga gm lv most life now], tX Tv, tX Tl] [] [] [] (vV (.slice base L.length cap)) := by
  refine xIn Try.f56 fun E0 w0 hL hC hk => ?_
  refine xR 9 [(3, dC (c_idx0 ga gm gl lv most life now Tl Tv L base cap H hm hl q0) [0, 1, 2, 3])] ?_
  refine xR 14 [] ?_
  exact (xRetC [])
end Go.Proofs.Ytlfekknonjlopaa
