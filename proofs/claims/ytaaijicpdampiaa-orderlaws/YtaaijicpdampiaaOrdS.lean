/- The contracts of Of, Canonical and Clamp, of the law's of, and of the document's. -/
import Derived.Test.YtaaijicpdampiaaOrdR
import Derived.Test.YtaaijicpdampiaaParts
namespace Go.Proofs.Ytaaijicpdampiaa
open Go.RowKit

/-- The number of a string's bytes modulo the order. -/
def ofN (s : ByteArray) : Int := bv s s.size % Lm
theorem ofN_bd (s : ByteArray) : 0 ≤ ofN s ∧ ofN s < Lm := lmod _

theorem mod_bytes (s : ByteArray) (w : World) (hs : s.size ≤ 64) :
    Calls Try.prog 26 #[.agg (arr 8 fun j => sw s j 8)] w fun x w' => x = .returned (.agg (arr 4 (d64 (ofN s)))) ∧ Below w.heap.size w w' := by
  have h := modulo_any (fun j => sw s j 8) w (sw_wds s 8)
  rw [Q_bv s 8, bv_64 s hs] at h
  exact h

set_option maxRecDepth 100000 in
set_option maxHeartbeats 1000000 in
theorem of_any (s : ByteArray) (w : World) (hs : s.size ≤ 64) (hp : s.size = 32 ∨ s.size = 64) :
    Calls Try.prog 7 #[.string s] w fun r w' => r = .returned (.tuple #[.agg (arr 4 (d64 (ofN s))), .int .i64 0]) ∧ Below w.heap.size w w' := by
  have HM := hide fun w => mod_bytes s w hs
  have R : Row (w.alloc (.cells #[Value.int IntKind.u64 0, Value.int IntKind.u64 0, Value.int IntKind.u64 0, Value.int IntKind.u64 0] 27)) w.heap.size 27 4 (fun _ => 0) := Row.new w 27 4 (fun _ => 0)
  have O : Below w.heap.size w (w.alloc (.cells #[Value.int IntKind.u64 0, Value.int IntKind.u64 0, Value.int IntKind.u64 0, Value.int IntKind.u64 0] 27)) := new_below w _
  obtain ⟨cap, W1, hcv, B, hb⟩ := conv_str (w.alloc (.cells #[Value.int IntKind.u64 0, Value.int IntKind.u64 0, Value.int IntKind.u64 0, Value.int IntKind.u64 0] 27)) s
  rw [show (w.alloc (.cells #[Value.int IntKind.u64 0, Value.int IntKind.u64 0, Value.int IntKind.u64 0, Value.int IntKind.u64 0] 27)).heap.size = w.heap.size + 1 by simp] at hcv B
  have HB := hide B
  replace R := R.keep hb
  replace O := O.trans (hb.mono O.size)
  clear B hb
  generalize ofN s = V at *
  have fin : ∀ w', Row w' w.heap.size 27 4 (fun _ => 0) → Below w.heap.size w w' → True := fun _ _ _ => trivial
  clear fin
  rcases hp with hp | hp
  · have n0 : ((s.size : Int) != 32) = false := by simp [hp]
    go_enter Try.func7, Try.ntmps7
    go_wp2_with fail
    have HC := dbl_any s _ cap W1 hs HB.out
    rw [hp] at HC
    refine HC.mono ?_
    clear HC
    rintro _ w1 ⟨rfl, hb1⟩
    replace R := R.keep hb1
    replace O := O.trans (hb1.mono O.size)
    clear hb1 HB hcv n0
    go_wp2_with fail
    refine (HM.out _).mono ?_
    rintro _ w2 ⟨rfl, hb1⟩
    replace R := R.keep hb1
    replace O := O.trans (hb1.mono O.size)
    clear hb1 HM
    have RR := hide (R.setAll (d64 V))
    have OO := hide (below_setCells (g := w.heap.size) (Nat.le_refl _) (arr 4 (d64 V)).toList 0 O)
    clear O
    go_wp2_with (refine wpList_store_mid rfl 27 _ _ rfl w.heap.size 0 (arr 4 (d64 V)) rfl rfl ?thn (info27 _) (arr_one _ _) ?_)
    case thn => rw [arr_size]; exact R.there
    exact bodyPost_ret (v := .tuple #[.agg (arr 4 (d64 V)), .int .i64 0]) (results_cell_tmp Try.results7 _ _ w.heap.size 27 (arr 4 (d64 V)) (0, 0) _ _ rfl rfl RR.out Try.underlying27 rfl (info27 _)) rfl ⟨rfl, OO.out⟩
  · have n0 : ((s.size : Int) != 32) = true := by simp [hp]
    have n1 : ((s.size : Int) != 64) = false := by simp [hp]
    go_enter Try.func7, Try.ntmps7
    go_wp2_with fail
    have HC := dbl_any s _ cap W1 hs HB.out
    rw [hp] at HC
    refine HC.mono ?_
    clear HC
    rintro _ w1 ⟨rfl, hb1⟩
    replace R := R.keep hb1
    replace O := O.trans (hb1.mono O.size)
    clear hb1 HB hcv n0 n1
    go_wp2_with fail
    refine (HM.out _).mono ?_
    rintro _ w2 ⟨rfl, hb1⟩
    replace R := R.keep hb1
    replace O := O.trans (hb1.mono O.size)
    clear hb1 HM
    have RR := hide (R.setAll (d64 V))
    have OO := hide (below_setCells (g := w.heap.size) (Nat.le_refl _) (arr 4 (d64 V)).toList 0 O)
    clear O
    go_wp2_with (refine wpList_store_mid rfl 27 _ _ rfl w.heap.size 0 (arr 4 (d64 V)) rfl rfl ?thm (info27 _) (arr_one _ _) ?_)
    case thm => rw [arr_size]; exact R.there
    exact bodyPost_ret (v := .tuple #[.agg (arr 4 (d64 V)), .int .i64 0]) (results_cell_tmp Try.results7 _ _ w.heap.size 27 (arr 4 (d64 V)) (0, 0) _ _ rfl rfl RR.out Try.underlying27 rfl (info27 _)) rfl ⟨rfl, OO.out⟩

set_option maxHeartbeats 400000 in
theorem of_no (s : ByteArray) (w : World) (h1 : s.size ≠ 32) (h2 : s.size ≠ 64) :
    Calls Try.prog 7 #[.string s] w fun r w' => r = .returned (.tuple #[.agg (arr 4 (d64 0)), .int .i64 2]) ∧ Below w.heap.size w w' := by
  have n0 : ((s.size : Int) != 32) = true := by simp; omega
  have n1 : ((s.size : Int) != 64) = true := by simp; omega
  go_enter Try.func7, Try.ntmps7
  go_wp2
  exact bodyPost_ret (v := .tuple #[.agg (arr 4 (d64 0)), .int .i64 2]) (by simp [results, Try.results7, go_sem]; rfl) rfl ⟨rfl, (Below.refl _ _).alloc (Nat.le_refl _) _⟩

theorem canon_val (s : ByteArray) : ((br (fun j => sw s j 8) Lf 4 : Int) == 1) = decide (bv s 32 < Lm) := by
  have e := ms_Q (sw_wds s 4) Lf_wds 4 (by omega)
  have b := Q_bd (ms_wds (fun j => sw s j 8) Lf 4)
  have hb := br_bd (fun j => sw s j 8) Lf 4
  have q := Q_bv s 4
  have q2 := Q_bd (sw_wds s 4)
  have lp := Lm_P
  rw [q, Lf_Q] at e
  rw [q] at q2
  generalize Q (ms (fun j => sw s j 8) Lf) 4 = A at *
  generalize br (fun j => sw s j 8) Lf 4 = c at *
  rw [show 8 * 4 = 32 from rfl] at *
  generalize bv s 32 = V at *
  generalize (18446744073709551616 : Int) ^ 4 = X at *
  have l0 := Lm_pos
  generalize Lm = L at *
  rcases (show c = 0 ∨ c = 1 by omega) with rfl | rfl
  · rw [show ((0 : Int) == 1) = false from rfl]
    symm
    rw [decide_eq_false_iff_not]
    omega
  · rw [show ((1 : Int) == 1) = true from rfl]
    symm
    rw [decide_eq_true_eq]
    omega

set_option maxRecDepth 100000 in
set_option maxHeartbeats 1000000 in
theorem canon_yes (s : ByteArray) (w : World) (hs : s.size = 32) :
    Calls Try.prog 9 #[.string s] w fun r w' => r = .returned (.bool (decide (bv s 32 < Lm))) ∧ Below w.heap.size w w' := by
  have n0 : ((s.size : Int) != 32) = false := by simp [hs]
  obtain ⟨cap, W1, hcv, B, hb⟩ := conv_str w s
  have HB := hide B
  have O := hb
  have HV := hide (canon_val s)
  clear B hb
  go_enter Try.func9, Try.ntmps9
  go_wp2_with fail
  have HC := dbl_any s _ cap W1 (by omega) HB.out
  rw [hs] at HC
  refine HC.mono ?_
  clear HC
  rintro _ w1 ⟨rfl, hb1⟩
  replace O := O.trans (hb1.mono O.size)
  clear hb1 HB hcv n0
  go_wp2_with fail
  refine (low_any _ _).mono ?_
  rintro _ w2 ⟨rfl, hb1⟩
  replace O := O.trans (hb1.mono O.size)
  clear hb1
  go_wp2_with fail
  refine (modulus_any _).mono ?_
  rintro _ w3 ⟨rfl, hb1⟩
  replace O := O.trans (hb1.mono O.size)
  clear hb1
  go_wp2_with fail
  refine (minus_any _ _ _ (sw_wds s 4) Lf_wds).mono ?_
  rintro _ w4 ⟨rfl, hb1⟩
  replace O := O.trans (hb1.mono O.size)
  clear hb1
  generalize ms (fun j => sw s j 8) Lf = r
  have hbr := br_bd (fun j => sw s j 8) Lf 4
  generalize br (fun j => sw s j 8) Lf 4 = c at *
  have RC : Row (w4.alloc (.cells #[Value.int IntKind.u64 0, Value.int IntKind.u64 0, Value.int IntKind.u64 0, Value.int IntKind.u64 0] 25)) w4.heap.size 25 4 (fun _ => 0) := Row.new w4 25 4 (fun _ => 0)
  have BB := hide (O.trans ((below_setCells (g := w4.heap.size) (Nat.le_refl _) (arr 4 r).toList 0 (new_below w4 (.cells #[Value.int IntKind.u64 0, Value.int IntKind.u64 0, Value.int IntKind.u64 0, Value.int IntKind.u64 0] 25))).mono O.size))
  generalize hd : decide (bv s 32 < Lm) = d at *
  have HD := hide hd
  clear hd O
  go_wp2_with (refine wpList_store_mid rfl 25 _ _ rfl w4.heap.size 0 (arr 4 r) rfl rfl ?thr (info25 _) (arr_one _ _) ?_)
  case thr => rw [arr_size]; exact RC.there
  go_ret
  exact ⟨by rw [HD.out, ← HV.out]; rfl, BB.out⟩

set_option maxHeartbeats 400000 in
theorem canon_no (s : ByteArray) (w : World) (hs : s.size ≠ 32) :
    Calls Try.prog 9 #[.string s] w fun r w' => r = .returned (.bool false) ∧ Below w.heap.size w w' := by
  have n0 : ((s.size : Int) != 32) = true := by simp; omega
  go_enter Try.func9, Try.ntmps9
  go_wp2
  go_ret
  exact ⟨rfl, Below.refl _ _⟩

end Go.Proofs.Ytaaijicpdampiaa
