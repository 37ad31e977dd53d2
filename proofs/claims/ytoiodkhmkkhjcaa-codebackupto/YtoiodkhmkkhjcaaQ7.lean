/- What was written is read as itself: numbers, texts, rows of them. -/
import Derived.Test.YtoiodkhmkkhjcaaQ6
namespace Go.Proofs.Ytoiodkhmkkhjcaa
open Go.RowKit

theorem ext_left (a b : ByteArray) : (a ++ b).extract 0 a.size = a := by
  apply ByteArray.ext
  rw [ByteArray.data_extract, ByteArray.data_append]
  show (a.data ++ b.data).extract 0 a.data.size = a.data
  rw [Array.extract_append]
  simp
theorem ext_right (a b : ByteArray) : (a ++ b).extract a.size (a ++ b).size = b := by
  apply ByteArray.ext
  rw [ByteArray.data_extract, ByteArray.data_append, ByteArray.size_append]
  show (a.data ++ b.data).extract a.data.size (a.data.size + b.data.size) = b.data
  rw [Array.extract_append, Array.extract_empty_of_size_le_start (Nat.le_refl _), Array.empty_append, Nat.sub_self, Nat.add_sub_cancel_left]
  exact Array.extract_size
theorem bt_bs (l : List Int) (h : ∀ x ∈ l, 0 ≤ x ∧ x < 256) (i : Nat) : bt (bs l) i = l.getD i 0 := by rw [bt_of_sb, sb_bs l h]
theorem tk_app (a b : ByteArray) (n : Int) (hn : n = (a.size : Int)) : tkV (a ++ b) 0 n = a ∧ tkS (a ++ b) 0 n = b ∧ tkF (a ++ b) 0 n = 0 := by
  subst hn
  have hs := ByteArray.size_append (a := a) (b := b)
  have hc : (0 : Int) = 0 ∧ 0 ≤ (a.size : Int) ∧ (a.size : Int) ≤ ((a ++ b).size : Int) := by omega
  refine ⟨?_, ?_, ?_⟩
  · unfold tkV
    rw [if_pos hc]
    exact ext_left a b
  · unfold tkS
    rw [if_pos hc]
    exact ext_right a b
  · unfold tkF
    rw [if_pos rfl, if_neg (by omega), if_neg (by omega)]
/-- Horner. -/
def hv (s : ByteArray) : Nat → Int
  | 0 => 0
  | j + 1 => hv s j * 256 + bt s j
theorem bd_hv (s : ByteArray) (j : Nat) (h : j ≤ 8) : bd s j = hv s j := by
  induction j with
  | zero => rfl
  | succ j ih =>
    have h1 := bd_lt s j (by omega)
    have hb := bt_nn s j
    have hp : (256 : Int) ^ j ≤ 256 ^ 7 := ipow_le (by omega)
    generalize (256 : Int) ^ j = p at *
    unfold bd hv
    rw [u8_cv64, ua_eq, sl_8, ← ih (by omega)]
    omega
theorem bnv_hv (s : ByteArray) (k : Nat) (hs : s.size = k) (h : k ≤ 8) : bnv s = hv s k := by
  rw [bnv_bdv]
  unfold bdv
  rw [hs]
  exact bd_hv s k h
theorem bnv_be8 (x : Int) (h0 : 0 ≤ x) (h1 : x < 18446744073709551616) : bnv (be8 x) = x := by
  rw [bnv_hv _ 8 (be8_size x) (by decide)]
  unfold be8
  simp only [hv]
  rw [bt_bs _ (by intro x hx; simp only [List.mem_cons, List.mem_nil_iff, or_false] at hx; rcases hx with rfl | rfl | rfl | rfl | rfl | rfl | rfl | rfl <;> exact cv8_nn _), bt_bs _ (by intro x hx; simp only [List.mem_cons, List.mem_nil_iff, or_false] at hx; rcases hx with rfl | rfl | rfl | rfl | rfl | rfl | rfl | rfl <;> exact cv8_nn _), bt_bs _ (by intro x hx; simp only [List.mem_cons, List.mem_nil_iff, or_false] at hx; rcases hx with rfl | rfl | rfl | rfl | rfl | rfl | rfl | rfl <;> exact cv8_nn _), bt_bs _ (by intro x hx; simp only [List.mem_cons, List.mem_nil_iff, or_false] at hx; rcases hx with rfl | rfl | rfl | rfl | rfl | rfl | rfl | rfl <;> exact cv8_nn _), bt_bs _ (by intro x hx; simp only [List.mem_cons, List.mem_nil_iff, or_false] at hx; rcases hx with rfl | rfl | rfl | rfl | rfl | rfl | rfl | rfl <;> exact cv8_nn _), bt_bs _ (by intro x hx; simp only [List.mem_cons, List.mem_nil_iff, or_false] at hx; rcases hx with rfl | rfl | rfl | rfl | rfl | rfl | rfl | rfl <;> exact cv8_nn _), bt_bs _ (by intro x hx; simp only [List.mem_cons, List.mem_nil_iff, or_false] at hx; rcases hx with rfl | rfl | rfl | rfl | rfl | rfl | rfl | rfl <;> exact cv8_nn _), bt_bs _ (by intro x hx; simp only [List.mem_cons, List.mem_nil_iff, or_false] at hx; rcases hx with rfl | rfl | rfl | rfl | rfl | rfl | rfl | rfl <;> exact cv8_nn _)]
  simp only [List.getD_cons_zero, List.getD_cons_succ, cv_u8, sr_8]
  omega
theorem bnv_be4 (x : Int) (h0 : 0 ≤ x) (h1 : x < 4294967296) : bnv (be4 x) = x := by
  rw [bnv_hv _ 4 (be4_size x) (by decide)]
  unfold be4
  simp only [hv]
  rw [bt_bs _ (by intro x hx; simp only [List.mem_cons, List.mem_nil_iff, or_false] at hx; rcases hx with rfl | rfl | rfl | rfl <;> exact cv8_nn _), bt_bs _ (by intro x hx; simp only [List.mem_cons, List.mem_nil_iff, or_false] at hx; rcases hx with rfl | rfl | rfl | rfl <;> exact cv8_nn _), bt_bs _ (by intro x hx; simp only [List.mem_cons, List.mem_nil_iff, or_false] at hx; rcases hx with rfl | rfl | rfl | rfl <;> exact cv8_nn _), bt_bs _ (by intro x hx; simp only [List.mem_cons, List.mem_nil_iff, or_false] at hx; rcases hx with rfl | rfl | rfl | rfl <;> exact cv8_nn _)]
  simp only [List.getD_cons_zero, List.getD_cons_succ, cv_u8, sr_8]
  omega
theorem bnv_be2 (x : Int) (h0 : 0 ≤ x) (h1 : x < 65536) : bnv (be2 x) = x := by
  rw [bnv_hv _ 2 (be2_size x) (by decide)]
  unfold be2
  simp only [hv]
  rw [bt_bs _ (by intro x hx; simp only [List.mem_cons, List.mem_nil_iff, or_false] at hx; rcases hx with rfl | rfl <;> exact cv8_nn _), bt_bs _ (by intro x hx; simp only [List.mem_cons, List.mem_nil_iff, or_false] at hx; rcases hx with rfl | rfl <;> exact cv8_nn _)]
  simp only [List.getD_cons_zero, List.getD_cons_succ, cv_u8, sr_8]
  omega
/-- A number at the front. -/
theorem q_U64 (g : Nat) (x : Int) (h0 : 0 ≤ x) (h1 : x < 18446744073709551616) (S : ByteArray) (w : World) (hL : Laid w) (hg : w.heap[g]? = some (.cells (av 3 (ls [.bool true, .string (be8 x ++ S), .int .i64 0])) 59)) :
    Calls Try.prog 19 #[.pointer (some ⟨g, 0, none⟩)] w fun r w' => r = .returned (.int .u64 x) ∧ Grw w w' [g] ∧ w'.heap[g]? = some (.cells (av 3 (ls [.bool true, .string S, .int .i64 0])) 59) := by
  have h := r_U64 g (be8 x ++ S) 0 w hL hg
  obtain ⟨e1, e2, e3⟩ := tk_app (be8 x) S 8 (by rw [be8_size]; rfl)
  rw [e1, e2, e3, bnv_be8 x h0 h1] at h
  exact h
theorem q_U32 (g : Nat) (x : Int) (S : ByteArray) (w : World) (hL : Laid w) (hg : w.heap[g]? = some (.cells (av 3 (ls [.bool true, .string (be4 (cv .u64 (cv .u32 x)) ++ S), .int .i64 0])) 59)) :
    Calls Try.prog 18 #[.pointer (some ⟨g, 0, none⟩)] w fun r w' => r = .returned (.int .u32 (cv .u32 x)) ∧ Grw w w' [g] ∧ w'.heap[g]? = some (.cells (av 3 (ls [.bool true, .string S, .int .i64 0])) 59) := by
  have h := r_U32 g (be4 (cv .u64 (cv .u32 x)) ++ S) 0 w hL hg
  obtain ⟨e1, e2, e3⟩ := tk_app (be4 (cv .u64 (cv .u32 x))) S 4 (by rw [be4_size]; rfl)
  have e : cv .u32 (bnv (be4 (cv .u64 (cv .u32 x)))) = cv .u32 x := by
    rw [bnv_be4 _ (by rw [cv_u64, cv_u32]; omega) (by rw [cv_u64, cv_u32]; omega), cv_u64, cv_u32, cv_u32]
    omega
  rw [e1, e2, e3, e] at h
  exact h
theorem q_U16 (g : Nat) (x : Int) (S : ByteArray) (w : World) (hL : Laid w) (hg : w.heap[g]? = some (.cells (av 3 (ls [.bool true, .string (be2 (cv .u64 (cv .u16 x)) ++ S), .int .i64 0])) 59)) :
    Calls Try.prog 17 #[.pointer (some ⟨g, 0, none⟩)] w fun r w' => r = .returned (.int .u16 (cv .u16 x)) ∧ Grw w w' [g] ∧ w'.heap[g]? = some (.cells (av 3 (ls [.bool true, .string S, .int .i64 0])) 59) := by
  have h := r_U16 g (be2 (cv .u64 (cv .u16 x)) ++ S) 0 w hL hg
  obtain ⟨e1, e2, e3⟩ := tk_app (be2 (cv .u64 (cv .u16 x))) S 2 (by rw [be2_size]; rfl)
  have e : cv .u16 (bnv (be2 (cv .u64 (cv .u16 x)))) = cv .u16 x := by
    rw [bnv_be2 _ (by rw [cv_u64, cv_u16]; omega) (by rw [cv_u64, cv_u16]; omega), cv_u64, cv_u16, cv_u16]
    omega
  rw [e1, e2, e3, e] at h
  exact h
/-- A text at the front. -/
def wt (t : ByteArray) : ByteArray := be2 (cv .u64 (cv .u16 (t.size : Int))) ++ t
theorem wt_size (t : ByteArray) : (wt t).size = t.size + 2 := by
  unfold wt
  rw [ByteArray.size_append, be2_size]
  omega
theorem q_Text (g : Nat) (t : ByteArray) (ht : (t.size : Int) ≤ 32768) (S : ByteArray) (w : World) (hL : Laid w) (hg : w.heap[g]? = some (.cells (av 3 (ls [.bool true, .string (wt t ++ S), .int .i64 0])) 59)) :
    Calls Try.prog 22 #[.pointer (some ⟨g, 0, none⟩)] w fun r w' => r = .returned (.string t) ∧ Grw w w' [g] ∧ w'.heap[g]? = some (.cells (av 3 (ls [.bool true, .string S, .int .i64 0])) 59) := by
  have h := c_Text g (wt t ++ S) w hL hg
  have ea : wt t ++ S = be2 (cv .u64 (cv .u16 (t.size : Int))) ++ (t ++ S) := by
    unfold wt
    rw [ByteArray.append_assoc]
  obtain ⟨e1, e2, e3⟩ := tk_app (be2 (cv .u64 (cv .u16 (t.size : Int)))) (t ++ S) 2 (by rw [be2_size]; rfl)
  rw [← ea] at e1 e2 e3
  have en : pxN (wt t ++ S) = (t.size : Int) := by
    unfold pxN
    rw [e1, bnv_be2 _ (by rw [cv_u64, cv_u16]; omega) (by rw [cv_u64, cv_u16]; omega), cv_u64, cv_u16, cv_u16, cv_i64 (by omega) (by omega)]
    omega
  obtain ⟨f1, f2, f3⟩ := tk_app t S (t.size : Int) rfl
  have eF : pxF (wt t ++ S) = 0 := by
    unfold pxF
    rw [en, e2, e3, f3, if_neg (by omega), if_pos rfl]
  have eV : pxV (wt t ++ S) = t := by
    unfold pxV
    rw [en, e2, e3, f1, if_neg (by omega), if_pos rfl]
  have eS : pxS (wt t ++ S) = S := by
    unfold pxS
    rw [eF, en, e2, e3, f2, if_pos rfl, if_neg (by omega), if_pos rfl]
  rw [eF, eV, eS] at h
  exact h
theorem q_Take (g : Nat) (S : ByteArray) (w : World) (hL : Laid w) (hg : w.heap[g]? = some (.cells (av 3 (ls [.bool true, .string S, .int .i64 0])) 59)) :
    Calls Try.prog 20 #[.pointer (some ⟨g, 0, none⟩), .int .i64 (S.size : Int)] w fun r w' => r = .returned (.string S) ∧ Grw w w' [g] ∧ w'.heap[g]? = some (.cells (av 3 (ls [.bool true, .string ⟨#[]⟩, .int .i64 0])) 59) := by
  have h := c_Take g S 0 (S.size : Int) w hL hg
  obtain ⟨e1, e2, e3⟩ := tk_app S ⟨#[]⟩ (S.size : Int) rfl
  have ea : S ++ (⟨#[]⟩ : ByteArray) = S := by
    apply ByteArray.ext
    rw [ByteArray.data_append]
    simp
  rw [ea] at e1 e2 e3
  rw [e1, e2, e3] at h
  exact h
/-- The sum of lengths, as it is reckoned. -/
def sm (Y : Nat → ByteArray) (r : ByteArray) : Nat → Int
  | 0 => (r.size : Int)
  | j + 1 => IntKind.wrap .i64 (sm Y r j + ((Y j).size : Int))
theorem sm_is (Y : Nat → ByteArray) (r : ByteArray) (n : Nat) (hr : r.size ≤ 140737488351232) (hY : ∀ j, j < n → (Y j).size ≤ 140737488351232) (j : Nat) (hn : n ≤ 100) (hj : j ≤ n) : (r.size : Int) ≤ sm Y r j ∧ sm Y r j ≤ 140737488351232 * (j + 1) ∧ ∀ i, i < j → ((Y i).size : Int) ≤ sm Y r j := by
  induction j with
  | zero => exact ⟨Int.le_refl _, by unfold sm; omega, fun i hi => by omega⟩
  | succ j ih =>
    obtain ⟨i1, i2, i3⟩ := ih (by omega)
    have hy := hY j (by omega)
    have e : sm Y r (j + 1) = sm Y r j + ((Y j).size : Int) := by
      show IntKind.wrap .i64 (sm Y r j + ((Y j).size : Int)) = _
      rw [wrap64 (by omega) (by omega)]
    rw [e]
    refine ⟨by omega, by push_cast; omega, fun i hi => ?_⟩
    by_cases c : i = j
    · subst c; omega
    · have := i3 i (by omega); omega
/-- All numbers, each as 8, 4 and 2 bytes. -/
def eL (X : Nat → Int) : Nat → ByteArray
  | 0 => ⟨#[]⟩
  | j + 1 => ((eL X j ++ be8 (X j)) ++ be4 (cv .u64 (cv .u32 (X j)))) ++ be2 (cv .u64 (cv .u16 (X j)))
theorem eL_size (X : Nat → Int) (j : Nat) : (eL X j).size = 14 * j := by
  induction j with
  | zero => rfl
  | succ j ih =>
    unfold eL
    rw [ByteArray.size_append, ByteArray.size_append, ByteArray.size_append, ih, be8_size, be4_size, be2_size]
    omega
/-- The texts that are not too long. -/
def tl (Y : Nat → ByteArray) : Nat → List ByteArray
  | 0 => []
  | j + 1 => if 32768 < ((Y j).size : Int) then tl Y j else tl Y j ++ [Y j]
def eT (X : Nat → Int) (n : Nat) (Y : Nat → ByteArray) : Nat → ByteArray
  | 0 => eL X n
  | j + 1 => if 32768 < ((Y j).size : Int) then eT X n Y j else eT X n Y j ++ wt (Y j)
theorem tl_len (Y : Nat → ByteArray) (j : Nat) : (tl Y j).length ≤ j := by
  induction j with
  | zero => exact Nat.le_refl _
  | succ j ih =>
    unfold tl
    split
    · omega
    · rw [List.length_append]
      simp
      omega
theorem tl_le (Y : Nat → ByteArray) (j : Nat) : ∀ t ∈ tl Y j, (t.size : Int) ≤ 32768 := by
  induction j with
  | zero => intro t ht; cases ht
  | succ j ih =>
    unfold tl
    split
    · exact ih
    · intro t ht
      rcases List.mem_append.1 ht with h | h
      · exact ih t h
      · obtain rfl := List.mem_singleton.1 h
        omega
set_option maxRecDepth 100000 in
theorem eT_size (X : Nat → Int) (n : Nat) (Y : Nat → ByteArray) (j : Nat) : (eT X n Y j).size ≤ 14 * n + j * 32770 := by
  induction j with
  | zero => unfold eT; rw [eL_size]; omega
  | succ j ih =>
    unfold eT
    split
    · omega
    · rw [ByteArray.size_append, wt_size]
      omega
/-- What is left to be read: numbers from the j-th on, k of them; texts. -/
def rl (X : Nat → Int) (T : ByteArray) : Nat → Nat → ByteArray
  | 0, _ => T
  | k + 1, j => be8 (X j) ++ (be4 (cv .u64 (cv .u32 (X j))) ++ (be2 (cv .u64 (cv .u16 (X j))) ++ rl X T k (j + 1)))
def rt (T : ByteArray) : List ByteArray → ByteArray
  | [] => T
  | t :: ts => wt t ++ rt T ts
theorem rl_step (X : Nat → Int) (T : ByteArray) (n j : Nat) (h : j < n) : rl X T (n - j) j = be8 (X j) ++ (be4 (cv .u64 (cv .u32 (X j))) ++ (be2 (cv .u64 (cv .u16 (X j))) ++ rl X T (n - (j + 1)) (j + 1))) := by
  obtain ⟨k, hk⟩ : ∃ k, n - j = k + 1 := ⟨n - j - 1, by omega⟩
  have hk2 : n - (j + 1) = k := by omega
  rw [hk, hk2]
  rfl
theorem rl_all (X : Nat → Int) (T : ByteArray) (n k : Nat) (h : k ≤ n) : eL X n ++ T = eL X (n - k) ++ rl X T k (n - k) := by
  induction k with
  | zero => rfl
  | succ k ih =>
    rw [ih (by omega)]
    have e : n - k = n - (k + 1) + 1 := by omega
    rw [e]
    generalize n - (k + 1) = m
    show ((eL X m ++ be8 (X m)) ++ be4 (cv .u64 (cv .u32 (X m)))) ++ be2 (cv .u64 (cv .u16 (X m))) ++ rl X T k (m + 1) = eL X m ++ (be8 (X m) ++ (be4 (cv .u64 (cv .u32 (X m))) ++ (be2 (cv .u64 (cv .u16 (X m))) ++ rl X T k (m + 1))))
    simp only [ByteArray.append_assoc]
theorem rt_app (T : ByteArray) (a b : List ByteArray) : rt T (a ++ b) = rt (rt T b) a := by
  induction a with
  | nil => rfl
  | cons x a ih => show wt x ++ rt T (a ++ b) = wt x ++ rt (rt T b) a; rw [ih]
theorem eT_rt (X : Nat → Int) (n : Nat) (Y : Nat → ByteArray) (j : Nat) : ∀ T, eT X n Y j ++ T = eL X n ++ rt T (tl Y j) := by
  induction j with
  | zero => intro T; rfl
  | succ j ih =>
    intro T
    unfold eT tl
    split
    · exact ih T
    · rw [rt_app, ByteArray.append_assoc, ih]
      rfl
theorem all_is (X : Nat → Int) (n : Nat) (Y : Nat → ByteArray) (m : Nat) (T : ByteArray) : eT X n Y m ++ T = rl X (rt T (tl Y m)) (n - 0) 0 := by
  rw [eT_rt, rl_all X _ n n (Nat.le_refl _), Nat.sub_self, Nat.sub_zero]
  show (⟨#[]⟩ : ByteArray) ++ _ = _
  apply ByteArray.ext
  rw [ByteArray.data_append]
  simp
/-- The i-th text. -/
def tg (l : List ByteArray) (i : Nat) : ByteArray := l.getD i ⟨#[]⟩
theorem tg_at (l : List ByteArray) (i : Nat) (h : i < l.length) : l[i]? = some (tg l i) := by
  unfold tg
  rw [List.getD_eq_getElem?_getD, List.getElem?_eq_getElem h]
  rfl
theorem rt_step (T : ByteArray) (l : List ByteArray) (i : Nat) (h : i < l.length) : rt T (l.drop i) = wt (tg l i) ++ rt T (l.drop (i + 1)) := by
  rw [List.drop_eq_getElem_cons h]
  have := tg_at l i h
  rw [List.getElem?_eq_getElem h] at this
  rw [Option.some.inj this]
  rfl
theorem rt_end (T : ByteArray) (l : List ByteArray) : rt T (l.drop l.length) = T := by
  rw [List.drop_length]
  rfl
def vS (l : List ByteArray) : List Value := l.map .string
theorem vS_len (l : List ByteArray) : (vS l).length = l.length := by simp [vS]
theorem vS_at (l : List ByteArray) (i : Nat) (h : i < l.length) : (vS l)[i]? = some (.string (tg l i)) := by
  unfold vS
  rw [List.getElem?_map, tg_at l i h]
  rfl
theorem c_NewE (s s' : ByteArray) (e : s = s') (w : World) (hL : Laid w) : Calls Try.prog 14 #[.string s] w fun r w' => ∃ g, r = .returned (.pointer (some ⟨g, 0, none⟩)) ∧ w.heap.size ≤ g ∧ w'.heap[g]? = some (.cells (av 3 (ls [.bool true, .string s', .int .i64 0])) 59) ∧ Below w.heap.size w w' := by
  subst e
  exact c_New s w hL
/-- Cells of a type, as append asks for them. -/
def InfoIs (P : Program) (e : TypeId) (zv : Value) : Prop := ∃ i, P.info? e = some i ∧ i.zero = some zv ∧ i.size = 1 ∧ i.bytes ≤ 16
theorem infoIs {P : Program} {e : TypeId} {zv : Value} {b : Nat} (h1 : (P.info? e).map (·.zero) = some (some zv)) (h2 : (P.info? e).map (·.size) = some 1) (h3 : (P.info? e).map (·.bytes) = some b) (hb : b ≤ 16) : InfoIs P e zv := by
  cases h : P.info? e with
  | none => rw [h] at h2; cases h2
  | some i =>
    rw [h] at h1 h2 h3
    simp only [Option.map_some, Option.some.injEq] at h1 h2 h3
    exact ⟨i, h, h1, h2, by omega⟩
theorem info9 : InfoIs Try.prog 9 (.string ⟨#[]⟩) := infoIs (b := 16) (by kernel_rfl) (by kernel_rfl) (by kernel_rfl) (by decide)
section
variable {P : Program} {ops : Array Oper} {rest : List Oper} {o : Oper} {a : Act} {w : World} {c : Ctx} {L : List Blk} {Q : Exit → Act → World → Prop}
theorem pl_appI (M : Mem c L w) (hw : Region.wanted o (yielded ops a.tmps) = true) (d : Option Tmp) (hd : o.dst = d) (t ty e : TypeId) (zv : Value) (ht : P.underlying t = some (.slice e)) (hin : InfoIs P e zv) (hzc : zv.cells.size = 1) (i g n cap : Nat) (Z : Obj) (l : List Value) (hi : L[i]? = some ⟨g, Z⟩) (hs : SB Z cap l) (hn : l.length = n) (hle : n < 1000000) (j gx Tx : Nat) (v : Value) (hj : L[j]? = some ⟨gx, .cells (av 1 (fun _ => v)) Tx⟩) (h1 : v.oneCell' = true)
    (hrun : ∀ w, (execOp a.eval o).run P w = (do pure (Next.value (← Builtin.append_ #[t, t] ty #[.slice (some ⟨g, 0, none⟩) n cap, .slice (some ⟨gx, 0, none⟩) 1 1]))).run P w)
    (h : ∀ g' cap' Z' w', SB Z' cap' (l ++ [v]) → Mem c (L.eraseIdx i ++ [⟨g', Z'⟩]) w' → PL P ops Q rest (a.put d (.slice (some ⟨g', 0, none⟩) (n + 1) cap')) w') : PL P ops Q (o :: rest) a w := by
  obtain ⟨info, i1, i2, i3, i4⟩ := hin
  exact pl_app M hw d hd t ty e info zv ht i1 i2 i3 i4 hzc i g n cap Z l hi hs hn hle j gx Tx v hj h1 hrun h
theorem pl_app0I (M : Mem c L w) (hw : Region.wanted o (yielded ops a.tmps) = true) (d : Option Tmp) (hd : o.dst = d) (t ty e : TypeId) (zv : Value) (ht : P.underlying t = some (.slice e)) (hin : InfoIs P e zv) (hzc : zv.cells.size = 1) (j gx Tx : Nat) (v : Value) (hj : L[j]? = some ⟨gx, .cells (av 1 (fun _ => v)) Tx⟩)
    (hrun : ∀ w, (execOp a.eval o).run P w = (do pure (Next.value (← Builtin.append_ #[t, t] ty #[.slice none 0 0, .slice (some ⟨gx, 0, none⟩) 1 1]))).run P w)
    (h : ∀ g' cap' Z' w', SB Z' cap' [v] → Mem c (L ++ [⟨g', Z'⟩]) w' → PL P ops Q rest (a.put d (.slice (some ⟨g', 0, none⟩) 1 cap')) w') : PL P ops Q (o :: rest) a w := by
  obtain ⟨info, i1, i2, i3, i4⟩ := hin
  exact pl_app0 M hw d hd t ty e info zv ht i1 i2 i3 i4 hzc j gx Tx v hj hrun h
end

end Go.Proofs.Ytoiodkhmkkhjcaa
