/- The contracts of the document's Add, Neg and Sub. -/
import Derived.Test.YtiiniodidkfbiaaRef2
import Derived.Test.YtiiniodidkfbiaaFloat
import Derived.Test.YtiiniodidkfbiaaEql
namespace Go.Proofs.Ytiiniodidkfbiaa
open Go.RowKit

/-- Of the second number the first k digits have been added. -/
def ad (a b : Nat → Int) (k : Nat) : Nat → Int := fun i => wid a 16 i + if i < k then b i else 0

theorem ad_48 {a b : Nat → Int} (ha : Dig a 16) (hb : Dig b 16) : B48 (ad a b 16) := ⟨fun i _ => by
  unfold ad wid
  by_cases hi : i < 16
  · rw [if_pos hi, if_pos hi]
    have := ha i hi
    have := hb i hi
    omega
  · rw [if_neg hi, if_neg hi]
    omega⟩

theorem S_add (f g : Nat → Int) : ∀ n, S (fun i => f i + g i) n = S f n + S g n
  | 0 => rfl
  | n + 1 => by
    have ih := S_add f g n
    simp only [S]
    rw [ih, Int.add_mul]
    omega

theorem ad_S (a b : Nat → Int) : S (ad a b 16) 32 = S a 16 + S b 16 := by
  have e : S (ad a b 16) 32 = S (wid a 16) 32 + S (wid b 16) 32 := by
    rw [← S_add]
    exact S_congr fun i _ => rfl
  rw [e, wid_S, wid_S]

set_option maxRecDepth 100000 in
set_option maxHeartbeats 1000000 in
theorem radd_any (a b : Nat → Int) (w : World) (ha : Dig a 16) (hb : Dig b 16) :
    Calls Try.prog 34 #[.agg (arr 16 a), .agg (arr 16 b)] w fun r w' => r = .returned (.agg (arr 16 (d16 ((S a 16 + S b 16) % Pm)))) ∧ Below w.heap.size w w' := by
  go_enter Try.func34, Try.ntmps34
  have R1 : Row (((w.alloc (.cells (arr 16 a) 35)).alloc (.cells (arr 16 b) 35)).alloc (.cells (arr 16 fun _ => 0) 35)) w.heap.size 35 16 a := ((Row.new w 35 16 a).alloc _).alloc _
  have R2 : Row (((w.alloc (.cells (arr 16 a) 35)).alloc (.cells (arr 16 b) 35)).alloc (.cells (arr 16 fun _ => 0) 35)) (w.heap.size + 1) 35 16 b := (Row.new' _ 35 16 _ (by simp)).alloc _
  have R3 : Row (((w.alloc (.cells (arr 16 a) 35)).alloc (.cells (arr 16 b) 35)).alloc (.cells (arr 16 fun _ => 0) 35)) (w.heap.size + 1 + 1) 35 16 (fun _ => 0) := Row.new' _ 35 16 _ (by simp)
  have O : Below w.heap.size w (((w.alloc (.cells (arr 16 a) 35)).alloc (.cells (arr 16 b) 35)).alloc (.cells (arr 16 fun _ => 0) 35)) := (((Below.refl _ _).alloc (Nat.le_refl _) _).alloc (by simp) _).alloc (by simp; omega) _
  have HR := hide R1
  go_wp2_with (refine wpList_load_row rfl 35 _ rfl w.heap.size rfl 35 (arr 16 a) (0, 0) _ HR.out Try.underlying35 rfl (info35 _) ?_)
  clear HR R1
  rw [show #[Value.int IntKind.u64 0, Value.int IntKind.u64 0, Value.int IntKind.u64 0, Value.int IntKind.u64 0, Value.int IntKind.u64 0, Value.int IntKind.u64 0, Value.int IntKind.u64 0, Value.int IntKind.u64 0, Value.int IntKind.u64 0, Value.int IntKind.u64 0, Value.int IntKind.u64 0, Value.int IntKind.u64 0, Value.int IntKind.u64 0, Value.int IntKind.u64 0, Value.int IntKind.u64 0, Value.int IntKind.u64 0] = arr 16 (fun _ => 0) from rfl]
  refine (wide_any a _).mono ?_
  rintro _ w1 ⟨rfl, hb1⟩
  replace R2 := R2.keep hb1
  replace R3 := R3.keep hb1
  replace O := O.trans (hb1.mono O.size)
  clear hb1
  have gt1 := R3.lt
  have R : Row (w1.alloc (.cells #[Value.int IntKind.u64 0, Value.int IntKind.u64 0, Value.int IntKind.u64 0, Value.int IntKind.u64 0, Value.int IntKind.u64 0, Value.int IntKind.u64 0, Value.int IntKind.u64 0, Value.int IntKind.u64 0, Value.int IntKind.u64 0, Value.int IntKind.u64 0, Value.int IntKind.u64 0, Value.int IntKind.u64 0, Value.int IntKind.u64 0, Value.int IntKind.u64 0, Value.int IntKind.u64 0, Value.int IntKind.u64 0, Value.int IntKind.u64 0, Value.int IntKind.u64 0, Value.int IntKind.u64 0, Value.int IntKind.u64 0, Value.int IntKind.u64 0, Value.int IntKind.u64 0, Value.int IntKind.u64 0, Value.int IntKind.u64 0, Value.int IntKind.u64 0, Value.int IntKind.u64 0, Value.int IntKind.u64 0, Value.int IntKind.u64 0, Value.int IntKind.u64 0, Value.int IntKind.u64 0, Value.int IntKind.u64 0, Value.int IntKind.u64 0] 50)) w1.heap.size 50 32 (fun _ => 0) := Row.new w1 50 32 (fun _ => 0)
  have BB := below_setCells (g := w1.heap.size) (Nat.le_refl _) (arr 32 (wid a 16)).toList 0 (new_below w1 (.cells #[Value.int IntKind.u64 0, Value.int IntKind.u64 0, Value.int IntKind.u64 0, Value.int IntKind.u64 0, Value.int IntKind.u64 0, Value.int IntKind.u64 0, Value.int IntKind.u64 0, Value.int IntKind.u64 0, Value.int IntKind.u64 0, Value.int IntKind.u64 0, Value.int IntKind.u64 0, Value.int IntKind.u64 0, Value.int IntKind.u64 0, Value.int IntKind.u64 0, Value.int IntKind.u64 0, Value.int IntKind.u64 0, Value.int IntKind.u64 0, Value.int IntKind.u64 0, Value.int IntKind.u64 0, Value.int IntKind.u64 0, Value.int IntKind.u64 0, Value.int IntKind.u64 0, Value.int IntKind.u64 0, Value.int IntKind.u64 0, Value.int IntKind.u64 0, Value.int IntKind.u64 0, Value.int IntKind.u64 0, Value.int IntKind.u64 0, Value.int IntKind.u64 0, Value.int IntKind.u64 0, Value.int IntKind.u64 0, Value.int IntKind.u64 0] 50))
  have RR := hide (R.setAll (wid a 16))
  have R2' := hide (R2.keep BB)
  have R3' := hide (R3.keep BB)
  have O' := hide (O.trans (BB.mono O.size))
  clear R2 R3 O BB
  go_wp2_with (refine wpList_store_mid rfl 50 _ _ rfl w1.heap.size 0 (arr 32 (wid a 16)) rfl rfl (by rw [arr_size]; exact R.there) (info50 _) (arr_one _ _) ?_)
  try rw [show ∀ (a : Act) (v : Value), a.put none v = a from fun _ _ => rfl]
  replace R := RR.out
  have R2 := R2'.out
  have R3 := R3'.out
  have O := O'.out
  clear RR R2' R3' O'
  generalize w1.heap.size = gt at *
  generalize (w1.alloc (.cells #[Value.int IntKind.u64 0, Value.int IntKind.u64 0, Value.int IntKind.u64 0, Value.int IntKind.u64 0, Value.int IntKind.u64 0, Value.int IntKind.u64 0, Value.int IntKind.u64 0, Value.int IntKind.u64 0, Value.int IntKind.u64 0, Value.int IntKind.u64 0, Value.int IntKind.u64 0, Value.int IntKind.u64 0, Value.int IntKind.u64 0, Value.int IntKind.u64 0, Value.int IntKind.u64 0, Value.int IntKind.u64 0, Value.int IntKind.u64 0, Value.int IntKind.u64 0, Value.int IntKind.u64 0, Value.int IntKind.u64 0, Value.int IntKind.u64 0, Value.int IntKind.u64 0, Value.int IntKind.u64 0, Value.int IntKind.u64 0, Value.int IntKind.u64 0, Value.int IntKind.u64 0, Value.int IntKind.u64 0, Value.int IntKind.u64 0, Value.int IntKind.u64 0, Value.int IntKind.u64 0, Value.int IntKind.u64 0, Value.int IntKind.u64 0] 50)).setCells gt 0 (arr 32 (wid a 16)).toList = W2 at *
  go_loopw [6] (fun i wr => ∃ k : Nat, k ≤ 16 ∧ i = .int .i64 k ∧ Row wr gt 50 32 (ad a b k) ∧ Row wr (w.heap.size + 1) 35 16 b ∧ Row wr (w.heap.size + 1 + 1) 35 16 (fun _ => 0) ∧ Below w.heap.size w wr) (fun i _ => 16 - (intOf i).toNat)
  case atStart => exact ⟨0, by omega, rfl, R.congr (fun i _ => by unfold ad; rw [if_neg (by omega)]; omega), R2, R3, O⟩
  case round =>
    clear R R2 R3 O
    obtain ⟨k, hk, rfl, R, R2, R3, O⟩ := hrel
    by_cases hlt : k < 16
    · have c := R.cell (i := k) (by omega)
      rw [show ad a b k k = a k by unfold ad wid; rw [if_pos hlt, if_neg (by omega)]; omega] at c
      have d := R2.cell hlt
      have e := R.free
      obtain ⟨a0, a1⟩ := ha k hlt
      obtain ⟨b0, b1⟩ := hb k hlt
      have i1 : (0 : Int) ≤ (k : Int) := by omega
      have i2 : (k : Int) < 16 := by omega
      go_wp2_with fail
      go_region
      go_wp2
      exact ⟨⟨k + 1, by omega, by go_num, rowD ((R.set k (a k + b k)).congr (fun i _ => by
        unfold upd ad
        by_cases h : i = k
        · subst h
          rw [if_pos rfl, if_pos (by omega)]
          unfold wid
          rw [if_pos hlt]
        · rw [if_neg h]
          by_cases h2 : i < k
          · rw [if_pos h2, if_pos (by omega)]
          · rw [if_neg h2, if_neg (by omega)])), rowD (R2.other (a := ⟨gt, k, none⟩) (by simp; omega) _), rowD (R3.other (a := ⟨gt, k, none⟩) (by simp; omega) _), (O.setCell (p := ⟨gt, k, none⟩) (by simp; omega) _).drew⟩, by simp [intOf]; omega⟩
    · have hk' : k = 16 := by omega
      subst hk'
      have HR := hide R
      clear R R2
      go_wp2_with (refine wpList_load_row rfl 50 _ rfl gt rfl 50 (arr 32 (ad a b 16)) (0, 0) _ HR.out Try.underlying50 rfl (info50 _) ?_)
      try rw [show ∀ (a : Act) (v : Value), a.put none v = a from fun _ _ => rfl]
      refine (reduce_any (ad a b 16) _ (ad_48 ha hb)).mono ?_
      rintro _ w3 ⟨rfl, hb3⟩
      replace R3 := R3.keep hb3
      replace O := O.trans (hb3.mono O.size)
      clear hb3 HR
      rw [ad_S]
      have RR := hide (R3.setAll (d16 ((S a 16 + S b 16) % Pm)))
      have OO := hide (below_setCells (g := w.heap.size + 1 + 1) (by omega) (arr 16 (d16 ((S a 16 + S b 16) % Pm))).toList 0 O)
      go_wp2_with (refine wpList_store_mid rfl 35 _ _ rfl (w.heap.size + 1 + 1) 0 (arr 16 (d16 ((S a 16 + S b 16) % Pm))) rfl rfl (by rw [arr_size]; exact R3.there) (info35 _) (arr_one _ _) ?_)
      exact bodyPost_ret (v := .agg (arr 16 (d16 ((S a 16 + S b 16) % Pm)))) (results_cell_row Try.results34 _ _ (w.heap.size + 1 + 1) 35 (arr 16 (d16 ((S a 16 + S b 16) % Pm))) (0, 0) _ rfl RR.out Try.underlying35 rfl (info35 _)) rfl ⟨rfl, OO.out⟩

end Go.Proofs.Ytiiniodidkfbiaa
