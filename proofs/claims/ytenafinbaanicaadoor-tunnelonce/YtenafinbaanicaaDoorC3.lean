/- A round of the stream: the walk of the body of the loop over blocks. -/
import Derived.Test.YtenafinbaanicaaDoorC1
import Derived.Test.YtenafinbaanicaaDoorC2
namespace Go.Proofs.YtenafinbaanicaaDoor
open Go.RowKit

/-- The loop over a function in a piece of code. -/
def findRange : Code → Option (Code × Code)
  | .seq a b => (findRange a).orElse fun _ => findRange b
  | .block _ c => findRange c
  | .rangeFunc _ _ s b => some (s, b)
  | _ => none
theorem code_is {O : Option (Code × Code)} {c0 d0 sg bd : Code} (hO : O = some (c0, d0)) (hc : O = some (sg, bd)) {F : Fence} {n : Nat} {P : Program} {Q : Exit → Act → World → Prop} {a : Act} {w : World} (h : d0.wpIn F n P Q a w) : bd.wpIn F n P Q a w := by
  rw [hO] at hc
  cases hc
  exact h
theorem code_is1 {O : Option (Code × Code)} {c0 d0 sg bd : Code} (hO : O = some (c0, d0)) (hc : O = some (sg, bd)) {F : Fence} {n : Nat} {P : Program} {Q : Exit → Act → World → Prop} {a : Act} {w : World} (h : c0.wpIn F n P Q a w) : sg.wpIn F n P Q a w := by
  rw [hO] at hc
  cases hc
  exact h
theorem au_block_out {id j : Nat} {Q : Exit → Act → World → Prop} {a : Act} {w : World} (h : j ≠ id) (hq : Q (.exit j) a w) : Exit.inBlock id Q (.exit j) a w := by
  show if j = id then Q .normal a w else Q (.exit j) a w
  rw [if_neg h]
  exact hq
/-- The words of the stream's blocks. -/
def sw (f : Nat → Int) : Nat → (Nat → Int)
  | 0 => f
  | i + 1 => upd (sw f i) 12 (va (sw f i 12) 1)
/-- A byte of a text, turned. -/
def ob (f : Nat → Int) (s : ByteArray) (i : Nat) : Int := xb (bt s i) (bl (sw f (i / 64)) (i % 64))
def ot (f : Nat → Int) (s : ByteArray) : Nat → List UInt8
  | 0 => []
  | i + 1 => ot f s i ++ [UInt8.ofNat (ob f s i).toNat]
theorem ot_length (f : Nat → Int) (s : ByteArray) : ∀ n, (ot f s n).length = n
  | 0 => rfl
  | n + 1 => by
    unfold ot
    rw [List.length_append, ot_length f s n]
    rfl
theorem ob_nn (f : Nat → Int) (s : ByteArray) (i : Nat) : 0 ≤ ob f s i ∧ ob f s i < 256 := xb_nn _ _
theorem ob_at (f : Nat → Int) (s : ByteArray) (i j : Nat) (hj : j < 64) : xb (bt s (64 * i + j)) (bl (sw f i) j) = ob f s (64 * i + j) := by
  unfold ob
  rw [show (64 * i + j) / 64 = i by omega, show (64 * i + j) % 64 = j by omega]
theorem ext_size (s : ByteArray) (p : Nat) : (s.extract p s.size).size = s.size - p := by
  rw [ByteArray.size_extract]
  omega
theorem bt_ext (s : ByteArray) (p j : Nat) : bt (s.extract p s.size) j = bt s (p + j) := by
  unfold bt
  rw [ByteArray.data_extract, Array.getElem?_extract]
  by_cases h : j < s.data.size - p
  · rw [if_pos (by show j < min s.data.size s.data.size - p; omega)]
  · rw [if_neg (by show ¬ j < min s.data.size s.data.size - p; omega), Array.getElem?_eq_none (by omega)]
theorem min_if (x y : Nat) : (if (y : Int) < (x : Int) then (y : Int) else (x : Int)) = ((min x y : Nat) : Int) := by
  by_cases h : y < x
  · rw [if_pos (by omega), Nat.min_eq_right (by omega)]
  · rw [if_neg (by omega), Nat.min_eq_left (by omega)]

set_option maxRecDepth 100000 in
set_option maxHeartbeats 4000000 in
/-- A round: the bytes of one block. -/
theorem r_body (sg bd : Code) (hb : Tryd.f62.body.bind findRange = some (sg, bd)) (s : ByteArray) (f : Nat → Int) (i : Nat) (hi : 64 * i ≤ s.size) (hz : s.size ≤ 200000) (k gs g7 lp : Nat) (L0 : List Blk) (v : Nat → Value) (w u : World) (hL : Laid w) (R : Exit → Act → World → Prop) (hO : ∀ a w, ¬ R .outgrown a w) (hP : ∀ c a w, ¬ R (.panic c) a w)
    (hS : ST w k (ot f s (64 * i)) (⟨gs, .cells (av 1 (fun _ => .string s)) 9⟩ :: ⟨g7, .cells (av 64 (w8 (bl (sw f i)))) 114⟩ :: L0) u)
    (hgo : ∀ a u', 64 < s.size - 64 * i → ST w k (ot f s (64 * i + 64)) (⟨gs, .cells (av 1 (fun _ => .string s)) 9⟩ :: ⟨g7, .cells (av 64 (w8 (bl (sw f i)))) 114⟩ :: L0) u' → R .normal a u')
    (hend : ∀ a u', s.size - 64 * i ≤ 64 → ST w k (ot f s s.size) (⟨gs, .cells (av 1 (fun _ => .string s)) 9⟩ :: ⟨g7, .cells (av 64 (w8 (bl (sw f i)))) 114⟩ :: L0) u' → R (.exit 0) a u') :
    bd.wpIn (FW (some lp)) 0 Tryd.prog R (fm ([v 0, v 1, .pointer (some ⟨gs, 0, none⟩), v 3, v 4, .pointer (some ⟨k, 0, none⟩), .int .i64 ((64 * i : Nat) : Int), .pointer (some ⟨g7, 0, none⟩)] ++ vr v 8 31)) u := by
  refine code_is (O := Tryd.f62.body.bind findRange) rfl hb ?_
  have M := hS.mem hL
  refine wpIn_block ?_
  refine wpIn_seq ?_
  refine rr_lit (by kernel_rfl) (fun _ _ h => hO _ _ h) ?_
  refine ZE M 17 0 0 ?_
  refine rV 1 ?_
  refine pH 19 (.string (s.extract (64 * i) s.size)) (run_strl 9 Tryd.underlying9 _ _ rfl s (by kernel_rfl) .i64 (64 * i) (by kernel_rfl) hi _ rfl) ?_
  refine rV 1 ?_
  refine nT ?_
  refine wpIn_seq ?_
  refine wpIn_seq ?_
  refine rr_lit (by kernel_rfl) (fun _ _ h => hO _ _ h) ?_
  refine rV 1 ?_
  refine zJ 21 (.int .i64 ((s.size - 64 * i : Nat) : Int)) (.int .i64 ((s.extract (64 * i) s.size).size : Int)) (by rw [ext_size]) ?_
  refine zJ 22 (.int .i64 ((min (s.size - 64 * i) 64 : Nat) : Int)) (.int .i64 (if (64 : Int) < ((s.size - 64 * i : Nat) : Int) then (64 : Int) else ((s.size - 64 * i : Nat) : Int))) (by rw [show (if (64 : Int) < ((s.size - 64 * i : Nat) : Int) then (64 : Int) else ((s.size - 64 * i : Nat) : Int)) = ((min (s.size - 64 * i) 64 : Nat) : Int) from min_if (s.size - 64 * i) 64]) ?_
  refine rV 1 ?_
  refine nT ?_
  refine wpIn_block ?_
  have hS1 := hS.next M hS.nr
  obtain ⟨N, hN⟩ : ∃ N, min (s.size - 64 * i) 64 = N := ⟨_, rfl⟩
  have hN2 : N ≤ 64 ∧ N ≤ s.size - 64 * i := by rw [← hN]; exact ⟨Nat.min_le_right _ _, Nat.min_le_left _ _⟩
  rw [hN]
  refine rr_loop (fun j a u => ∃ v1 : Nat → Value, a = (fm ([v 0, v 1, .pointer (some ⟨gs, 0, none⟩), v 3, v 4, .pointer (some ⟨k, 0, none⟩), .int .i64 ((64 * i : Nat) : Int), .pointer (some ⟨g7, 0, none⟩), .string (s.extract (64 * i) s.size), v1 9] ++ vr v 10 7 ++ [.string s, .int .i64 ((64 * i : Nat) : Int), .string (s.extract (64 * i) s.size), .string (s.extract (64 * i) s.size), .int .i64 ((s.size - 64 * i : Nat) : Int), .int .i64 ((N : Nat) : Int), .int .i64 (j : Int)] ++ vr v1 24 11 ++ vr v 35 4)) ∧ ST w k (ot f s (64 * i + j)) (⟨gs, .cells (av 1 (fun _ => .string s)) 9⟩ :: ⟨g7, .cells (av 64 (w8 (bl (sw f i)))) 114⟩ :: L0) u) N ⟨fun k_ => ([v 9, undef, undef, undef, undef, undef, undef, undef, undef, undef, undef, undef, undef, undef, undef, v 24, v 25, v 26, v 27, v 28, v 29, v 30, v 31, v 32, v 33, v 34] : List Value).getD (k_ - 9) undef, by kernel_rfl, hS1⟩ ?_ ?_
  · intro j a u0 hj hI
    clear M hS1 hS
    obtain ⟨v1, rfl, hS⟩ := hI
    have M := hS.mem hL
    refine wpIn_seq ?_
    refine rr_lit (by kernel_rfl) (fun _ _ h => hO _ _ h) ?_
    refine ZT 24 ((j : Int) < (N : Int)) ?_
    refine nT ?_
    refine wpIn_seq ?_
    refine wpIn_cond_true (by kernel_rfl) ?_
    refine wpIn_skip ?_
    refine au_then ?_
    refine wpIn_seq ?_
    refine wpIn_block ?_
    refine wpIn_seq ?_
    refine rr_lit (by kernel_rfl) (fun _ _ h => hO _ _ h) ?_
    refine rV 2 ?_
    refine nT ?_
    refine rr_held (by kernel_rfl) (fun _ _ h => hO _ _ h) M (⟨gs, .cells (av 1 (fun _ => .string s)) 9⟩ :: ⟨g7, .cells (av 64 (w8 (bl (sw f i)))) 114⟩ :: L0) 7 rfl (by kernel_rfl) (by kernel_rfl) (fun _ _ _ _ _ h => (hP _ _ _ h).elim) fun u1 M => ?_
    refine qV M 0 26 (.string (s.extract (64 * i) s.size)) ?_
    refine qV M 1 27 (.int .i64 (j : Int)) ?_
    refine qH M 2 28 (.int .u8 (bt s (64 * i + j))) (fun w _ => (fun w => Eq.trans (run_ixS 9 Tryd.underlying9 _ _ rfl (s.extract (64 * i) s.size) (by kernel_rfl) .i64 j (by kernel_rfl) (by rw [ext_size]; omega) w) (by rw [bt_ext])) w) ?_
    refine qV M 3 29 (.int .i64 (j : Int)) ?_
    refine qH M 4 30 (.pointer (some ⟨g7, j, none⟩)) (fun w _ => (run_ix1 114 64 5 Tryd.underlying114 inz5 _ _ rfl g7 (by kernel_rfl) .i64 (j) (by kernel_rfl) (by omega)) w) ?_
    refine qE M 5 31 1 j ?_
    refine qH M 6 32 (.int .u8 (ob f s (64 * i + j))) (fun w _ => (fun w => Eq.trans (b := .ok (.value (.int .u8 (xb (bt s (64 * i + j)) (bl (sw f i) j)))) w) (by kernel_rfl) (by rw [ob_at f s i j (by omega)])) w) ?_
    refine qZ ?_
    refine pl_callr (want_no rfl) (some 33) rfl 71 #[.pointer (some ⟨k, 0, none⟩), .int .u8 (ob f s (64 * i + j))] .nilIface _ (fun _ => by kernel_rfl) ((hS.next M hS.nr).write (ob f s (64 * i + j)) (ob_nn _ _ _).1 (ob_nn _ _ _).2 (by rw [ot_length]; omega)) ?_
    intro u2 hS2
    refine nT ?_
    refine au_block ?_
    refine au_then ?_
    refine rr_lit (by kernel_rfl) (fun _ _ h => hO _ _ h) ?_
    refine ZI 34 ((j : Int) + 1) ((j + 1 : Nat) : Int) ?_
    refine rV 1 ?_
    refine nT ?_
    exact exS hS2
  · intro a u0 hI
    clear M hS1 hS
    obtain ⟨v1, rfl, hS⟩ := hI
    by_cases hc : s.size - 64 * i ≤ 64
    · skip
      have M := hS.mem hL
      refine wpIn_seq ?_
      refine rr_lit (by kernel_rfl) (fun _ _ h => hO _ _ h) ?_
      refine ZF 24 ((N : Int) < (N : Int)) ?_
      refine nT ?_
      refine wpIn_seq ?_
      refine wpIn_cond_false (by kernel_rfl) ?_
      refine wpIn_exit ?_
      refine au_then_exit ?_
      refine au_then_exit ?_
      refine au_block_exit ?_
      refine au_then ?_
      refine wpIn_seq ?_
      refine rr_lit (by kernel_rfl) (fun _ _ h => hO _ _ h) ?_
      refine rV 1 ?_
      refine zJ 36 (.int .i64 ((s.size - 64 * i : Nat) : Int)) (.int .i64 ((s.extract (64 * i) s.size).size : Int)) (by rw [ext_size]) ?_
      refine ZT 37 (((s.size - 64 * i : Nat) : Int) ≤ 64) ?_
      refine nT ?_
      refine wpIn_cond_true (by kernel_rfl) ?_
      refine wpIn_exit ?_
      refine au_block_out (by decide) ?_
      have e : 64 * i + N = s.size := by rw [← hN, Nat.min_eq_left hc]; omega
      have hS3 := hS.next M hS.nr
      rw [e] at hS3
      exact hend _ _ hc hS3
    · skip
      have M := hS.mem hL
      refine wpIn_seq ?_
      refine rr_lit (by kernel_rfl) (fun _ _ h => hO _ _ h) ?_
      refine ZF 24 ((N : Int) < (N : Int)) ?_
      refine nT ?_
      refine wpIn_seq ?_
      refine wpIn_cond_false (by kernel_rfl) ?_
      refine wpIn_exit ?_
      refine au_then_exit ?_
      refine au_then_exit ?_
      refine au_block_exit ?_
      refine au_then ?_
      refine wpIn_seq ?_
      refine rr_lit (by kernel_rfl) (fun _ _ h => hO _ _ h) ?_
      refine rV 1 ?_
      refine zJ 36 (.int .i64 ((s.size - 64 * i : Nat) : Int)) (.int .i64 ((s.extract (64 * i) s.size).size : Int)) (by rw [ext_size]) ?_
      refine ZF 37 (((s.size - 64 * i : Nat) : Int) ≤ 64) ?_
      refine nT ?_
      refine wpIn_cond_false (by kernel_rfl) ?_
      refine wpIn_skip ?_
      refine au_block ?_
      have e : N = 64 := by rw [← hN]; exact Nat.min_eq_right (by omega)
      have hS3 := hS.next M hS.nr
      rw [e] at hS3
      exact hgo _ _ (by omega) hS3

end Go.Proofs.YtenafinbaanicaaDoor
