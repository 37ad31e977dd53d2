/- What the marks mean: the numbers that were marked. -/
import Derived.Test.YtenafinbaanicaaDoorW2
namespace Go.Proofs.YtenafinbaanicaaDoor
open Go.RowKit
set_option maxRecDepth 100000

theorem wrapN (b : BitVec 64) : IntKind.wrap .u64 (b.toNat : Int) = (b.toNat : Int) := by
  have := b.isLt
  rw [IntKind.wrap_u64]
  omega
theorem ofI (b : BitVec 64) : BitVec.ofInt 64 (b.toNat : Int) = b := by
  rw [BitVec.ofInt_natCast, BitVec.ofNat_toNat, BitVec.setWidth_eq]
theorem bw_two (p : Nat) : BitVec.ofInt 64 (bw p) = BitVec.twoPow 64 (p % 64) := by
  have hp : p % 64 < 64 := Nat.mod_lt _ (by decide)
  have e : bw p = ((BitVec.twoPow 64 (p % 64)).toNat : Int) := by
    unfold bw sl
    rw [IntKind.wrap_u64, BitVec.toNat_twoPow]
    simp
  rw [e, ofI]
theorem hb_bit (m : Nat → Int) (p : Nat) : hb m p = (BitVec.ofInt 64 (m (p / 64))).getLsbD (p % 64) := by
  have hp : p % 64 < 64 := Nat.mod_lt _ (by decide)
  unfold hb un
  rw [bw_two, wrapN, BitVec.and_twoPow]
  cases h : (BitVec.ofInt 64 (m (p / 64))).getLsbD (p % 64)
  · simp
  · have h2 : (BitVec.twoPow 64 (p % 64)).toNat ≠ 0 := by
      rw [BitVec.toNat_twoPow, Nat.mod_eq_of_lt (Nat.pow_lt_pow_right (by decide) hp)]
      exact Nat.pos_iff_ne_zero.1 (Nat.pow_pos (by decide))
    simp only [if_true, decide_eq_true_eq]
    omega
theorem pl_eq {p q : Nat} (h : q / 64 = p / 64) : p % 64 = q % 64 ↔ q = p := by omega
theorem hb_set (m : Nat → Int) (p q : Nat) : hb (stM m p) q = (decide (q = p) || hb m q) := by
  have hq : q % 64 < 64 := Nat.mod_lt _ (by decide)
  rw [hb_bit, hb_bit]
  unfold stM upd uo
  by_cases h : q / 64 = p / 64
  · rw [if_pos h, wrapN, ofI, BitVec.getLsbD_or, bw_two, BitVec.getLsbD_twoPow, h]
    by_cases e : q = p
    · subst e
      simp [hq]
    · have e2 : ¬ p % 64 = q % 64 := fun x => e ((pl_eq h).1 x)
      simp [e, e2]
  · rw [if_neg h]
    have e : ¬ q = p := fun e => h (by rw [e])
    simp [e]
theorem hb_wipe (m : Nat → Int) (p q : Nat) : hb (wpM m p) q = (!decide (q = p) && hb m q) := by
  have hq : q % 64 < 64 := Nat.mod_lt _ (by decide)
  rw [hb_bit, hb_bit]
  unfold wpM upd ud
  by_cases h : q / 64 = p / 64
  · rw [if_pos h, wrapN, ofI, BitVec.getLsbD_and, BitVec.getLsbD_not, bw_two, BitVec.getLsbD_twoPow, h]
    by_cases e : q = p
    · subst e
      simp [hq]
    · have e2 : ¬ p % 64 = q % 64 := fun x => e ((pl_eq h).1 x)
      simp [e, e2, hq]
  · rw [if_neg h]
    have e : ¬ q = p := fun e => h (by rw [e])
    simp [e]
theorem hb_zero (q : Nat) : hb (fun _ => 0) q = false := by
  rw [hb_bit]
  simp
theorem hb_clear (n : Nat) (m : Nat → Int) (q : Nat) (h : q / 64 < n) : hb (clF n m) q = false := by
  rw [hb_bit]
  unfold clF
  rw [if_pos h]
  simp
theorem hb_copy (n : Nat) (m : Nat → Int) (q : Nat) (h : q / 64 < n) : hb (cpF n m) q = hb m q := by
  unfold hb cpF
  rw [if_pos h]
theorem hb_wps (s h : Nat) (m : Nat → Int) (q : Nat) : ∀ j, hb (wps s h m j) q = true ↔ hb m q = true ∧ ∀ i, i < j → q ≠ (h + 1 + i) % s
  | 0 => by simp [wps]
  | j + 1 => by
    have ih := hb_wps s h m q j
    unfold wps
    rw [hb_wipe]
    simp only [Bool.and_eq_true, Bool.not_eq_true', decide_eq_false_iff_not]
    constructor
    · intro ⟨h1, h2⟩
      obtain ⟨h3, h4⟩ := ih.1 h2
      refine ⟨h3, fun i hi => ?_⟩
      by_cases e : i = j
      · subst e
        exact h1
      · exact h4 i (by omega)
    · intro ⟨h1, h2⟩
      exact ⟨h2 j (by omega), ih.2 ⟨h1, fun i hi => h2 i (by omega)⟩⟩

/-- The highest number of a row, 0 of none. -/
def mx (l : List Nat) : Nat := l.foldl max 0
theorem mx_app (l : List Nat) (n : Nat) : mx (l ++ [n]) = max (mx l) n := by simp [mx, List.foldl_append]
theorem foldl_ge : ∀ (l : List Nat) (a : Nat), a ≤ l.foldl max a ∧ ∀ n ∈ l, n ≤ l.foldl max a
  | [], a => ⟨Nat.le_refl _, by simp⟩
  | x :: l, a => by
    obtain ⟨h1, h2⟩ := foldl_ge l (max a x)
    rw [List.foldl_cons]
    refine ⟨by omega, fun n hn => ?_⟩
    rcases List.mem_cons.1 hn with rfl | hn
    · omega
    · exact h2 n hn
theorem foldl_in : ∀ (l : List Nat) (a : Nat), l.foldl max a = a ∨ l.foldl max a ∈ l
  | [], a => .inl rfl
  | x :: l, a => by
    rw [List.foldl_cons]
    rcases foldl_in l (max a x) with h | h
    · rw [h]
      by_cases hx : a ≤ x
      · right
        rw [Nat.max_eq_right hx]
        exact List.mem_cons_self
      · left
        omega
    · exact .inr (List.mem_cons_of_mem _ h)
theorem le_mx {l : List Nat} {n : Nat} (h : n ∈ l) : n ≤ mx l := (foldl_ge l 0).2 n h
theorem mx_in {l : List Nat} (h : l ≠ []) : mx l ∈ l := by
  rcases foldl_in l 0 with e | e
  · cases l with
    | nil => exact absurd rfl h
    | cons x r =>
      have h1 := (foldl_ge (x :: r) 0).2 x List.mem_cons_self
      have : x = 0 := by omega
      subst this
      have e2 : mx (0 :: r) = 0 := e
      rw [e2]
      exact List.mem_cons_self
  · exact e
theorem mx_lt {l : List Nat} {B : Nat} (hB : 0 < B) (h : ∀ n ∈ l, n < B) : mx l < B := by
  by_cases e : l = []
  · subst e
    exact hB
  · exact h _ (mx_in e)
/-- Whether a number may be marked. -/
def my (s : Nat) (l : List Nat) (n : Nat) : Int := if l ≠ [] ∧ n < mx l ∧ s ≤ mx l - n then 170 else if n ∈ l then 9 else 0
def mk (s : Nat) (l : List Nat) (n : Nat) : List Nat := if my s l n = 0 then l ++ [n] else l
/-- The marks of a window tell which numbers that are not old were marked. -/
structure Inv (s h : Nat) (m : Nat → Int) (l : List Nat) : Prop where
  hi : h = mx l
  bits : ∀ n, n ≤ h → h < n + s → (hb m (n % s) = true ↔ n ∈ l)
theorem inv_new (s : Nat) : Inv s 0 (fun _ => 0) [] := ⟨rfl, fun n _ _ => by simp [hb_zero]⟩
theorem mod_in (s n : Nat) (hs : 1 ≤ s) : (n % s) / 64 < nW s := by
  have := Nat.mod_lt n (show 0 < s by omega)
  unfold nW
  omega
theorem inv_copy {s h : Nat} {m : Nat → Int} {l : List Nat} (I : Inv s h m l) (hs : 1 ≤ s) : Inv s h (cpF (nW s) m) l := ⟨I.hi, fun n h1 h2 => by rw [hb_copy _ _ _ (mod_in s n hs)]; exact I.bits n h1 h2⟩
theorem may_eq {s h : Nat} {m : Nat → Int} {l : List Nat} (I : Inv s h m l) (hs : 1 ≤ s) (n : Nat) : myF s h m n = my s l n := by
  have hh := I.hi
  unfold myF my
  by_cases c1 : h < n
  · rw [if_pos c1, if_neg (by omega), if_neg (fun hm => by have := le_mx hm; omega)]
  · rw [if_neg c1]
    by_cases c2 : s ≤ h - n
    · rw [if_pos c2, if_pos ⟨fun e => by subst e; simp [mx] at hh; omega, by omega, by omega⟩]
    · have c4 : ¬ (l ≠ [] ∧ n < mx l ∧ s ≤ mx l - n) := by omega
      rw [if_neg c2, if_neg c4]
      have hbt := I.bits n (by omega) (by omega)
      by_cases c3 : n ∈ l
      · rw [if_pos (hbt.2 c3), if_pos c3]
      · rw [if_neg (fun x => c3 (hbt.1 x)), if_neg c3]
theorem mod_ne {s a b : Nat} (h1 : a < b) (h2 : b < a + s) : a % s ≠ b % s := by
  intro e
  have h3 := Nat.div_add_mod a s
  have h4 := Nat.div_add_mod b s
  rw [e] at h3
  have h5 : s * (a / s) < s * (b / s) := by omega
  have h6 : a / s < b / s := Nat.lt_of_mul_lt_mul_left h5
  have h7 : s * (a / s + 1) ≤ s * (b / s) := Nat.mul_le_mul_left s h6
  rw [Nat.mul_add, Nat.mul_one] at h7
  omega
theorem mod_one_of {s a b : Nat} (h1 : a < b + s) (h2 : b < a + s) (e : a % s = b % s) : a = b := by
  rcases Nat.lt_trichotomy a b with h | h | h
  · exact absurd e (mod_ne h h2)
  · exact h
  · exact absurd e.symm (mod_ne h h1)
theorem inv_mark {s h : Nat} {m : Nat → Int} {l : List Nat} (I : Inv s h m l) (hs : 1 ≤ s) (n : Nat) : Inv s (mkH s h m n) (mkM s h m n) (mk s l n) := by
  have hh := I.hi
  have he := may_eq I hs n
  unfold mkH mkM mk
  rw [he]
  by_cases c0 : my s l n = 0
  · rw [if_pos c0, if_pos c0, if_pos c0]
    by_cases c1 : h < n
    · rw [if_pos c1, if_pos c1]
      refine ⟨by rw [mx_app]; omega, fun q h1 h2 => ?_⟩
      rw [hb_set, Bool.or_eq_true, decide_eq_true_eq, List.mem_append, List.mem_singleton]
      have e1 : q % s = n % s ↔ q = n := ⟨fun e => mod_one_of (by omega) (by omega) e, fun e => by rw [e]⟩
      rw [e1]
      have e2 : hb (lvM s h m (n - h)) (q % s) = true ↔ q ∈ l ∧ q ≠ n := by
        unfold lvM
        by_cases c2 : s ≤ n - h
        · rw [if_pos c2, hb_clear _ _ _ (mod_in s q hs)]
          constructor
          · intro x
            cases x
          · intro ⟨x, _⟩
            have := le_mx x
            omega
        · rw [if_neg c2, hb_wps]
          constructor
          · intro ⟨x, y⟩
            have h3 : q ≤ h := by
              refine Nat.le_of_not_lt fun h4 => y (q - (h + 1)) (by omega) ?_
              rw [show h + 1 + (q - (h + 1)) = q by omega]
            exact ⟨(I.bits q h3 (by omega)).1 x, by omega⟩
          · intro ⟨x, y⟩
            have h3 := le_mx x
            exact ⟨(I.bits q (by omega) (by omega)).2 x, fun i hi => mod_ne (by omega) (by omega)⟩
      rw [e2]
      constructor
      · intro x
        rcases x with x | x
        · exact .inr x
        · exact .inl x.1
      · intro x
        by_cases y : q = n
        · exact .inl y
        · rcases x with x | x
          · exact .inr ⟨x, y⟩
          · exact .inl x
    · rw [if_neg c1, if_neg c1]
      have c2 : ¬ s ≤ h - n := fun c2 => by
        unfold myF at he
        rw [if_neg c1, if_pos c2, c0] at he
        cases he
      refine ⟨by rw [mx_app]; omega, fun q h1 h2 => ?_⟩
      rw [hb_set, Bool.or_eq_true, decide_eq_true_eq, List.mem_append, List.mem_singleton]
      have e1 : q % s = n % s ↔ q = n := ⟨fun e => mod_one_of (by omega) (by omega) e, fun e => by rw [e]⟩
      rw [e1, I.bits q h1 h2]
      exact Or.comm
  · rw [if_neg c0, if_neg c0, if_neg c0]
    exact I
theorem hi_eq {s h : Nat} {m : Nat → Int} {l : List Nat} (I : Inv s h m l) (hs : 1 ≤ s) : hiV s h m = mx l ∧ hb m (h % s) = decide (l ≠ []) := by
  have hh := I.hi
  have hbt := I.bits h (Nat.le_refl _) (by omega)
  have e : hb m (h % s) = decide (l ≠ []) := by
    by_cases c : l = []
    · subst c
      have e3 : hb m (h % s) = false := Bool.eq_false_iff.2 (fun x => by have := hbt.1 x; simp at this)
      rw [e3]
      simp
    · rw [hbt.2 (by rw [hh]; exact mx_in c), decide_eq_true c]
  refine ⟨?_, e⟩
  unfold hiV
  rw [e]
  by_cases c : l = []
  · subst c
    simp [mx]
  · rw [decide_eq_true c, if_pos rfl, hh]
theorem mk_lt {s n B : Nat} {l : List Nat} (h : ∀ q ∈ l, q < B) (hn : n < B) : ∀ q ∈ mk s l n, q < B := by
  intro q hq
  unfold mk at hq
  split at hq
  · rcases List.mem_append.1 hq with x | x
    · exact h q x
    · rw [List.mem_singleton.1 x]
      exact hn
  · exact h q hq
theorem mk_len (s n : Nat) (l : List Nat) : (mk s l n).length ≤ l.length + 1 := by
  unfold mk
  split <;> simp
theorem mkH_lt {s h : Nat} {m : Nat → Int} {n B : Nat} (hh : h < B) (hn : n < B) : mkH s h m n < B := by
  unfold mkH
  split
  · split <;> omega
  · exact hh

end Go.Proofs.YtenafinbaanicaaDoor
