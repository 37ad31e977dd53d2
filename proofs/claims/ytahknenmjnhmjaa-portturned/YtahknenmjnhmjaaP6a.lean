/- What was made is told as it was made: sums and bytes. -/
import Derived.Test.YtahknenmjnhmjaaP4
namespace Go.Proofs.Ytahknenmjnhmjaa
open Go.RowKit

theorem bt_left (a b : ByteArray) (i : Nat) (h : i < a.size) : bt (a ++ b) i = bt a i := by
  unfold bt
  rw [ByteArray.data_append, Array.getElem?_append_left h]
theorem bt_right (a b : ByteArray) (i : Nat) : bt (a ++ b) (a.size + i) = bt b i := by
  unfold bt
  rw [ByteArray.data_append, Array.getElem?_append_right (show a.data.size ≤ a.size + i from Nat.le_add_right _ _)]
  show ((b.data[a.size + i - a.size]?.getD 0).toNat : Int) = _
  rw [Nat.add_sub_cancel_left]
theorem tt_left (a b : ByteArray) : ∀ j, j ≤ a.size → tt (a ++ b) j = tt a j
  | 0, _ => rfl
  | j + 1, h => by
    unfold tt
    rw [tt_left a b j (by omega), bt_left a b j (by omega)]
theorem tt_right (a b : ByteArray) (ha : a.size % 2 = 0) : ∀ j, tt (a ++ b) (a.size + j) = tot a + tt b j
  | 0 => by
    rw [Nat.add_zero, tt_left a b _ (Nat.le_refl _)]
    show tot a = tot a + 0
    omega
  | j + 1 => by
    show tt (a ++ b) (a.size + j) + (if (a.size + j) % 2 = 0 then 256 * bt (a ++ b) (a.size + j) else bt (a ++ b) (a.size + j)) = tot a + (tt b j + (if j % 2 = 0 then 256 * bt b j else bt b j))
    rw [tt_right a b ha j, bt_right]
    have e : (a.size + j) % 2 = j % 2 := by omega
    rw [e]
    omega
theorem tot_app (a b : ByteArray) (ha : a.size % 2 = 0) : tot (a ++ b) = tot a + tot b := by
  have h := tt_right a b ha b.size
  unfold tot at *
  rw [ByteArray.size_append]
  exact h
theorem tot_nn (a : ByteArray) : 0 ≤ tot a := (tt_nn a _).1
theorem Fs_top (t : Int) (h : 0 ≤ t) : Fs (t + (65535 - Fs t)) = 65535 := by
  unfold Fs
  by_cases h0 : t = 0
  · subst h0
    decide
  · rw [if_neg h0, if_neg (by omega)]
    omega
theorem be2_tot (n : Int) (h0 : 0 ≤ n) (h1 : n ≤ 65535) : tot (be2 (cv .u64 n)) = n := by
  rw [be2_u64]
  unfold tot
  rw [be2_size]
  have hb : ∀ x ∈ [cv .u8 (sr n 8), cv .u8 n], 0 ≤ x ∧ x < 256 := by
    intro x hx
    simp only [List.mem_cons, List.mem_nil_iff, or_false] at hx
    rcases hx with rfl | rfl <;> exact cv8_nn _
  have e0 : bt (be2 n) 0 = n / 256 % 256 := by
    unfold be2
    rw [bt_bs _ hb]
    simp only [List.getD_cons_zero, cv_u8, sr_8]
  have e1 : bt (be2 n) 1 = n % 256 := by
    unfold be2
    rw [bt_bs _ hb]
    simp only [List.getD_cons_succ, List.getD_cons_zero, cv_u8]
  show (0 + (if 0 % 2 = 0 then 256 * bt (be2 n) 0 else bt (be2 n) 0)) + (if 1 % 2 = 0 then 256 * bt (be2 n) 1 else bt (be2 n) 1) = n
  rw [if_pos rfl, if_neg (by decide), e0, e1]
  omega
theorem pr_be2 (n : Int) (h0 : 0 ≤ n) (h1 : n ≤ 65535) : pr (be2 (cv .u64 n)) 0 = n := by
  have h := be2_tot n h0 h1
  unfold tot at h
  rw [be2_size] at h
  have e : tt (be2 (cv .u64 n)) 2 = 0 + 256 * bt (be2 (cv .u64 n)) 0 + bt (be2 (cv .u64 n)) 1 := rfl
  rw [e] at h
  show 256 * bt (be2 (cv .u64 n)) 0 + bt (be2 (cv .u64 n)) 1 = n
  omega
theorem pr_left (a b : ByteArray) (k : Nat) (h : k + 2 ≤ a.size) : pr (a ++ b) k = pr a k := by
  unfold pr
  rw [bt_left a b k (by omega), bt_left a b (k + 1) (by omega)]
theorem bt_rightk (a b : ByteArray) (k j : Nat) (h : k = a.size + j) : bt (a ++ b) k = bt b j := by
  subst h
  exact bt_right a b j
theorem pr_rightk (a b : ByteArray) (k j : Nat) (h : k = a.size + j) : pr (a ++ b) k = pr b j := by
  unfold pr
  rw [bt_rightk a b k j h, bt_rightk a b (k + 1) (j + 1) (by omega)]
theorem tot_put (Q A B : ByteArray) (hQ : Q.size % 2 = 0) (hA : A.size % 2 = 0) (x : Int) (h0 : 0 ≤ x) (h1 : x ≤ 65535) : tot (Q ++ ((A ++ be2 (cv .u64 x)) ++ B)) = tot Q + tot A + tot B + x := by
  rw [tot_app Q _ hQ, tot_app _ B (by rw [ByteArray.size_append, be2_size]; omega), tot_app A _ hA, be2_tot x h0 h1]
  omega
theorem Fs_put (t x : Int) (h : 0 ≤ t) (hx : x = 65535 - Fs t ∨ (65535 - Fs t = 0 ∧ x = 65535)) : Fs (t + x) = 65535 := by
  rcases hx with rfl | ⟨e, rfl⟩
  · exact Fs_top t h
  · have e2 : Fs t = 65535 := by omega
    unfold Fs at e2 ⊢
    split at e2
    · cases e2
    · rw [if_neg (by omega)]
      omega
theorem sum_put (Q A B : ByteArray) (hQ : Q.size % 2 = 0) (hA : A.size % 2 = 0) (x : Int) (hx : x = sumS (Q ++ pkD A B) ∨ (sumS (Q ++ pkD A B) = 0 ∧ x = 65535)) : sumS (Q ++ ((A ++ be2 (cv .u64 x)) ++ B)) = 0 := by
  have h0 := tot_put Q A B hQ hA 0 (by decide) (by decide)
  have hs : sumS (Q ++ pkD A B) = 65535 - Fs (tot Q + tot A + tot B) := by
    show 65535 - Fs (tot (Q ++ pkD A B)) = _
    unfold pkD
    rw [h0, Int.add_zero]
  have hn := Fs_nn (tot Q + tot A + tot B)
  rw [hs] at hx
  have hr : 0 ≤ x ∧ x ≤ 65535 := by omega
  show 65535 - Fs (tot _) = 0
  have a0 := tot_nn Q
  have a1 := tot_nn A
  have a2 := tot_nn B
  rw [tot_put Q A B hQ hA x hr.1 hr.2, Fs_put _ x (by omega) hx]
  rfl
theorem aB_even (v : Bool) (h l : Int) : (aB v h l).size % 2 = 0 := by
  cases v
  · rw [aB_f]
  · rw [aB_t]
theorem psB_even (v0 : Bool) (h0 l0 : Int) (v1 : Bool) (h1 l1 p n : Int) : (psB v0 h0 l0 v1 h1 l1 p n).size % 2 = 0 := by
  have a := aB_even v0 h0 l0
  have b := aB_even v1 h1 l1
  unfold psB
  simp only [ByteArray.size_append, be2_size, bs_size, List.length_cons, List.length_nil]
  omega
theorem pkO_size (v0 : Bool) (h0 l0 : Int) (v1 : Bool) (h1 l1 p : Int) (A B : ByteArray) : (pkO v0 h0 l0 v1 h1 l1 p A B).size = A.size + 2 + B.size := by
  unfold pkO
  rw [ByteArray.size_append, ByteArray.size_append, be2_size]
theorem pk_sum (v0 : Bool) (h0 l0 : Int) (v1 : Bool) (h1 l1 p : Int) (A B : ByteArray) (hA : A.size % 2 = 0) : sO v0 h0 l0 v1 h1 l1 p (pkO v0 h0 l0 v1 h1 l1 p A B) = 0 := by
  have hz : (pkO v0 h0 l0 v1 h1 l1 p A B).size = (pkD A B).size := by rw [pkO_size, pkD_size]
  have hx : tS v0 h0 l0 v1 h1 l1 p (pkD A B) = sO v0 h0 l0 v1 h1 l1 p (pkD A B) ∨ (sO v0 h0 l0 v1 h1 l1 p (pkD A B) = 0 ∧ tS v0 h0 l0 v1 h1 l1 p (pkD A B) = 65535) := by
    unfold tS
    split
    · split
      · exact Or.inr ⟨by assumption, rfl⟩
      · exact Or.inl rfl
    · exact Or.inl rfl
  unfold sO
  rw [hz]
  by_cases hp : p = 6 ∨ p = 17 ∨ p = 58
  · rw [if_pos hp]
    unfold sO at hx
    rw [if_pos hp] at hx
    exact sum_put _ A B (psB_even ..) hA _ hx
  · rw [if_neg hp]
    unfold sO at hx
    rw [if_neg hp] at hx
    have h := sum_put ⟨#[]⟩ A B rfl hA (tS v0 h0 l0 v1 h1 l1 p (pkD A B)) (by rw [nil_app]; exact hx)
    rw [nil_app] at h
    exact h
theorem fS_pk (v0 : Bool) (h0 l0 : Int) (v1 : Bool) (h1 l1 p : Int) (A B : ByteArray) (hA : A.size % 2 = 0) : fS v0 h0 l0 v1 h1 l1 p (pkO v0 h0 l0 v1 h1 l1 p A B) = 0 := if_pos (pk_sum v0 h0 l0 v1 h1 l1 p A B hA)
theorem my_pk (v0 : Bool) (h0 l0 : Int) (v1 : Bool) (h1 l1 p : Int) (A B : ByteArray) (h : pkE v0 h0 l0 v1 h1 l1 A B = 0) : my v0 h0 l0 v1 h1 l1 ((pkO v0 h0 l0 v1 h1 l1 p A B).size : Int) = 0 := by
  rw [pkO_size, ← pkD_size]
  exact h
theorem my_ok {v0 : Bool} {h0 l0 : Int} {v1 : Bool} {h1 l1 n : Int} (h : my v0 h0 l0 v1 h1 l1 n = 0) : v1 = v0 ∧ hdr v0 + n ≤ 1500 ∧ mA v0 h0 l0 = true ∧ mA v1 h1 l1 = true := by
  unfold my at h
  split at h
  · rename_i e
    simp only [Bool.and_eq_true, decide_eq_true_eq] at e
    split at h
    · cases h
    · exact ⟨e.2.symm, by omega, e.1.1, e.1.2⟩
  · cases h
theorem pk_small {v0 : Bool} {h0 l0 : Int} {v1 : Bool} {h1 l1 : Int} {A B : ByteArray} (h : pkE v0 h0 l0 v1 h1 l1 A B = 0) : A.size + 2 + B.size ≤ 1480 := by
  obtain ⟨_, h2, _⟩ := my_ok h
  rw [pkD_size] at h2
  have hh : 20 ≤ hdr v0 := by cases v0 <;> decide
  omega
theorem my_swap {v0 : Bool} {h0 l0 : Int} {v1 : Bool} {h1 l1 n : Int} (h : my v0 h0 l0 v1 h1 l1 n = 0) : my v1 h1 l1 v0 h0 l0 n = 0 := by
  obtain ⟨e, h2, h3, h4⟩ := my_ok h
  unfold my
  rw [h3, h4, if_pos (by rw [decide_eq_true e]; rfl), if_neg (by rw [e]; omega)]
/-- The bytes of what is made. -/
theorem u_pr (v0 : Bool) (h0 l0 : Int) (v1 : Bool) (h1 l1 p f g n : Int) (B : ByteArray) (hf : 0 ≤ f ∧ f < 65536) (hg : 0 ≤ g ∧ g < 65536) (hn : 0 ≤ 8 + n ∧ 8 + n ≤ 65535) : pr (pkO v0 h0 l0 v1 h1 l1 p (udA f g n) B) 0 = f ∧ pr (pkO v0 h0 l0 v1 h1 l1 p (udA f g n) B) 2 = g ∧ pr (pkO v0 h0 l0 v1 h1 l1 p (udA f g n) B) 4 = 8 + n := by
  have z := udA_size f g n
  have z2 : (be2 (cv .u64 f) ++ be2 (cv .u64 g)).size = 4 := by rw [ByteArray.size_append, be2_size, be2_size]
  have e : ∀ k, k + 2 ≤ 6 → pr (pkO v0 h0 l0 v1 h1 l1 p (udA f g n) B) k = pr (udA f g n) k := fun k hk => by
    unfold pkO
    rw [pr_left _ B k (by rw [ByteArray.size_append]; omega), pr_left _ _ k (by omega)]
  rw [e 0 (by decide), e 2 (by decide), e 4 (by decide)]
  unfold udA
  refine ⟨?_, ?_, ?_⟩
  · rw [pr_left _ _ 0 (by omega), pr_left _ _ 0 (by rw [be2_size]; decide)]
    exact pr_be2 f hf.1 (by omega)
  · rw [pr_left _ _ 2 (by omega), pr_rightk _ _ 2 0 (by rw [be2_size])]
    exact pr_be2 g hg.1 (by omega)
  · rw [pr_rightk _ _ 4 0 (by omega)]
    exact pr_be2 _ hn.1 hn.2
theorem t_pr (v0 : Bool) (h0 l0 : Int) (v1 : Bool) (h1 l1 p f g q : Int) (B : ByteArray) (hf : 0 ≤ f ∧ f < 65536) (hg : 0 ≤ g ∧ g < 65536) (hq : 0 ≤ q ∧ q < 256) : pr (pkO v0 h0 l0 v1 h1 l1 p (tcA f g q) B) 0 = f ∧ pr (pkO v0 h0 l0 v1 h1 l1 p (tcA f g q) B) 2 = g ∧ bt (pkO v0 h0 l0 v1 h1 l1 p (tcA f g q) B) 12 = 80 ∧ bt (pkO v0 h0 l0 v1 h1 l1 p (tcA f g q) B) 13 = q := by
  have z := tcA_size f g q
  have z2 : (be2 (cv .u64 f) ++ be2 (cv .u64 g)).size = 4 := by rw [ByteArray.size_append, be2_size, be2_size]
  have z3 : ((be2 (cv .u64 f) ++ be2 (cv .u64 g)) ++ be4 (cv .u64 0)).size = 8 := by rw [ByteArray.size_append, z2, be4_size]
  have z4 : (((be2 (cv .u64 f) ++ be2 (cv .u64 g)) ++ be4 (cv .u64 0)) ++ be4 (cv .u64 0)).size = 12 := by rw [ByteArray.size_append, z3, be4_size]
  have hb : ∀ x ∈ [80, q, 255, 255], 0 ≤ x ∧ x < 256 := by
    intro x hx
    simp only [List.mem_cons, List.mem_nil_iff, or_false] at hx
    omega
  have e : ∀ k, k + 2 ≤ 16 → pr (pkO v0 h0 l0 v1 h1 l1 p (tcA f g q) B) k = pr (tcA f g q) k := fun k hk => by
    unfold pkO
    rw [pr_left _ B k (by rw [ByteArray.size_append]; omega), pr_left _ _ k (by omega)]
  have e' : ∀ k, k < 16 → bt (pkO v0 h0 l0 v1 h1 l1 p (tcA f g q) B) k = bt (tcA f g q) k := fun k hk => by
    unfold pkO
    rw [bt_left _ B k (by rw [ByteArray.size_append]; omega), bt_left _ _ k (by omega)]
  rw [e 0 (by decide), e 2 (by decide), e' 12 (by decide), e' 13 (by decide)]
  unfold tcA
  refine ⟨?_, ?_, ?_, ?_⟩
  · rw [pr_left _ _ 0 (by omega), pr_left _ _ 0 (by omega), pr_left _ _ 0 (by omega), pr_left _ _ 0 (by rw [be2_size]; decide)]
    exact pr_be2 f hf.1 (by omega)
  · rw [pr_left _ _ 2 (by omega), pr_left _ _ 2 (by omega), pr_left _ _ 2 (by omega), pr_rightk _ _ 2 0 (by rw [be2_size])]
    exact pr_be2 g hg.1 (by omega)
  · rw [bt_rightk _ _ 12 0 (by omega), bt_bs _ hb]
    rfl
  · rw [bt_rightk _ _ 13 1 (by omega), bt_bs _ hb]
    rfl
theorem x_pr (v0 : Bool) (h0 l0 : Int) (v1 : Bool) (h1 l1 p k f : Int) (d : ByteArray) (hk : 0 ≤ k ∧ k < 256) (hf : 0 ≤ f ∧ f < 65536) : bt (pkO v0 h0 l0 v1 h1 l1 p (ehA k) (ehB f d)) 0 = k ∧ pr (pkO v0 h0 l0 v1 h1 l1 p (ehA k) (ehB f d)) 4 = f := by
  have z := ehA_size k
  have hb : ∀ x ∈ [k, 0], 0 ≤ x ∧ x < 256 := by
    intro x hx
    simp only [List.mem_cons, List.mem_nil_iff, or_false] at hx
    omega
  constructor
  · unfold pkO
    rw [bt_left _ _ 0 (by rw [ByteArray.size_append]; omega), bt_left _ _ 0 (by omega)]
    unfold ehA
    rw [bt_bs _ hb]
    rfl
  · unfold pkO
    rw [pr_rightk _ _ 4 0 (by rw [ByteArray.size_append, be2_size]; omega)]
    unfold ehB
    rw [pr_left _ _ 0 (by rw [ByteArray.size_append, be2_size, be2_size]; decide), pr_left _ _ 0 (by rw [be2_size]; decide)]
    exact pr_be2 f hf.1 (by omega)
/-- What was made has nothing wrong, and tells what it was made of. -/
theorem u_told (v0 : Bool) (h0 l0 : Int) (v1 : Bool) (h1 l1 f g : Int) (d : ByteArray) (hf : 0 ≤ f ∧ f < 65536) (hg : 0 ≤ g ∧ g < 65536) (h : pkE v0 h0 l0 v1 h1 l1 (udA f g (d.size : Int)) d = 0) :
    dE v0 h0 l0 v1 h1 l1 17 (pkO v0 h0 l0 v1 h1 l1 17 (udA f g (d.size : Int)) d) = 0 ∧ hFr 17 (pkO v0 h0 l0 v1 h1 l1 17 (udA f g (d.size : Int)) d) = f ∧ hTo 17 (pkO v0 h0 l0 v1 h1 l1 17 (udA f g (d.size : Int)) d) = g ∧ hFl 17 (pkO v0 h0 l0 v1 h1 l1 17 (udA f g (d.size : Int)) d) = 0 ∧ hSz 17 (pkO v0 h0 l0 v1 h1 l1 17 (udA f g (d.size : Int)) d) = (d.size : Int) := by
  have hs := pk_small h
  have z := udA_size f g (d.size : Int)
  have hz := pkO_size v0 h0 l0 v1 h1 l1 17 (udA f g (d.size : Int)) d
  obtain ⟨e0, e2, e4⟩ := u_pr v0 h0 l0 v1 h1 l1 17 f g (d.size : Int) d hf hg (by omega)
  have hS := fS_pk v0 h0 l0 v1 h1 l1 17 (udA f g (d.size : Int)) d (by rw [z])
  refine ⟨?_, e0, e2, rfl, ?_⟩
  · unfold dE fO fU
    rw [if_pos (my_pk v0 h0 l0 v1 h1 l1 17 _ _ h), if_pos rfl, if_neg (by omega), if_pos (by rw [e4]; omega), hS]
    split
    · rfl
    · exact ite_self 0
  · show ((_ : Nat) : Int) - 8 = _
    omega
theorem t_told (v0 : Bool) (h0 l0 : Int) (v1 : Bool) (h1 l1 f g q : Int) (d : ByteArray) (hf : 0 ≤ f ∧ f < 65536) (hg : 0 ≤ g ∧ g < 65536) (hq : 0 ≤ q ∧ q < 256) (h : pkE v0 h0 l0 v1 h1 l1 (tcA f g q) (tcB d) = 0) :
    dE v0 h0 l0 v1 h1 l1 6 (pkO v0 h0 l0 v1 h1 l1 6 (tcA f g q) (tcB d)) = 0 ∧ hFr 6 (pkO v0 h0 l0 v1 h1 l1 6 (tcA f g q) (tcB d)) = f ∧ hTo 6 (pkO v0 h0 l0 v1 h1 l1 6 (tcA f g q) (tcB d)) = g ∧ hFl 6 (pkO v0 h0 l0 v1 h1 l1 6 (tcA f g q) (tcB d)) = q ∧ hSz 6 (pkO v0 h0 l0 v1 h1 l1 6 (tcA f g q) (tcB d)) = (d.size : Int) := by
  have hs := pk_small h
  have z := tcA_size f g q
  have z2 := tcB_size d
  have hz := pkO_size v0 h0 l0 v1 h1 l1 6 (tcA f g q) (tcB d)
  obtain ⟨e0, e2, e4, e6⟩ := t_pr v0 h0 l0 v1 h1 l1 6 f g q (tcB d) hf hg hq
  have hS := fS_pk v0 h0 l0 v1 h1 l1 6 (tcA f g q) (tcB d) (by rw [z])
  have hH : hdO 6 (pkO v0 h0 l0 v1 h1 l1 6 (tcA f g q) (tcB d)) = 20 := by
    show bt _ 12 / 16 * 4 = 20
    rw [e4]
    rfl
  refine ⟨?_, e0, e2, e6, ?_⟩
  · unfold dE fO fT
    rw [if_pos (my_pk v0 h0 l0 v1 h1 l1 6 _ _ h), if_neg (by decide), if_pos rfl, if_neg (by omega), hH, if_neg (by decide), if_neg (by omega), hS]
  · show ((_ : Nat) : Int) - hdO 6 _ = _
    rw [hH]
    omega
theorem x_told (v0 : Bool) (h0 l0 : Int) (v1 : Bool) (h1 l1 f : Int) (rp : Bool) (d : ByteArray) (hf : 0 ≤ f ∧ f < 65536) (h : pkE v0 h0 l0 v1 h1 l1 (ehA (kO (eP v0) rp)) (ehB f d) = 0) :
    dE v0 h0 l0 v1 h1 l1 (eP v0) (pkO v0 h0 l0 v1 h1 l1 (eP v0) (ehA (kO (eP v0) rp)) (ehB f d)) = 0 ∧ hFr (eP v0) (pkO v0 h0 l0 v1 h1 l1 (eP v0) (ehA (kO (eP v0) rp)) (ehB f d)) = f ∧ hTo (eP v0) (pkO v0 h0 l0 v1 h1 l1 (eP v0) (ehA (kO (eP v0) rp)) (ehB f d)) = f ∧ hFl (eP v0) (pkO v0 h0 l0 v1 h1 l1 (eP v0) (ehA (kO (eP v0) rp)) (ehB f d)) = 0 ∧ hSz (eP v0) (pkO v0 h0 l0 v1 h1 l1 (eP v0) (ehA (kO (eP v0) rp)) (ehB f d)) = (d.size : Int) := by
  have hs := pk_small h
  have z := ehA_size (kO (eP v0) rp)
  have z2 := ehB_size f d
  have hz := pkO_size v0 h0 l0 v1 h1 l1 (eP v0) (ehA (kO (eP v0) rp)) (ehB f d)
  obtain ⟨e0, e4⟩ := x_pr v0 h0 l0 v1 h1 l1 (eP v0) (kO (eP v0) rp) f d (kO_nn _ _) hf
  have hS := fS_pk v0 h0 l0 v1 h1 l1 (eP v0) (ehA (kO (eP v0) rp)) (ehB f d) (by rw [z])
  have hM := my_pk v0 h0 l0 v1 h1 l1 (eP v0) _ _ h
  have hec : ec (eP v0) (bt (pkO v0 h0 l0 v1 h1 l1 (eP v0) (ehA (kO (eP v0) rp)) (ehB f d)) 0) = true := by
    rw [e0]
    unfold ec
    cases rp <;> simp
  have hFE : fE v0 h0 l0 v1 h1 l1 (eP v0) (pkO v0 h0 l0 v1 h1 l1 (eP v0) (ehA (kO (eP v0) rp)) (ehB f d)) = 0 := by
    unfold fE
    rw [if_pos rfl, if_neg (by omega), hS]
  generalize hO : pkO v0 h0 l0 v1 h1 l1 (eP v0) (ehA (kO (eP v0) rp)) (ehB f d) = O at *
  have h8 : hdO (eP v0) O = 8 := by cases v0 <;> rfl
  refine ⟨?_, ?_, ?_, ?_, ?_⟩
  · unfold dE fO
    rw [if_pos hM, hFE]
    simp only [ite_self]
    have n17 : ¬ eP v0 = 17 := by cases v0 <;> decide
    have n6 : ¬ eP v0 = 6 := by cases v0 <;> decide
    rw [if_neg n17, if_neg n6]
  · have n6 : ¬ eP v0 = 6 := by cases v0 <;> decide
    have n17 : ¬ eP v0 = 17 := by cases v0 <;> decide
    unfold hFr
    rw [if_neg n6, if_neg n17, if_pos hec, e4]
    cases v0 <;> rfl
  · have n6 : ¬ eP v0 = 6 := by cases v0 <;> decide
    have n17 : ¬ eP v0 = 17 := by cases v0 <;> decide
    unfold hTo
    rw [if_neg n6, if_neg n17, if_pos hec, e4]
    cases v0 <;> rfl
  · have n6 : ¬ eP v0 = 6 := by cases v0 <;> decide
    exact if_neg n6
  · unfold hSz
    rw [h8]
    omega
theorem sM_0 (v0 : Bool) (h0 l0 : Int) (v1 : Bool) (h1 l1 p : Int) (s : ByteArray) (h : sO v0 h0 l0 v1 h1 l1 p s = 0) : sM v0 h0 l0 v1 h1 l1 p s = 0 := by
  unfold sM
  rw [h]
  exact ite_self 0

end Go.Proofs.Ytahknenmjnhmjaa
