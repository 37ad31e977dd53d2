/- The contract of modulo: 512 bits modulo the order. -/
import Derived.Test.YtaaijicpdampiaaOrdF
namespace Go.Proofs.Ytaaijicpdampiaa
open Go.RowKit

/-- What a is after k rounds. -/
def md (f : Nat → Int) : Nat → Int
  | 0 => f 5 + f 6 * 18446744073709551616 + f 7 * 340282366920938463463374607431768211456
  | k + 1 => (md f k * 18446744073709551616 + f (4 - k)) % Lm
theorem md_bd {f : Nat → Int} (hf : Wds f 8) : ∀ k, 0 ≤ md f k ∧ md f k < Lm
  | 0 => by
    have h5 := hf 5 (by omega)
    have h6 := hf 6 (by omega)
    have h7 := hf 7 (by omega)
    unfold W64 at *
    unfold md Lm
    omega
  | k + 1 => lmod _
theorem md_step (a b : Int) : (a % Lm * 18446744073709551616 + b) % Lm = (a * 18446744073709551616 + b) % Lm := by
  rw [Int.add_emod, Int.mul_emod, Int.emod_emod_of_dvd a (Int.dvd_refl _), ← Int.mul_emod, ← Int.add_emod]
theorem md_half (N h : Int) : ((N * 4294967296 + h / 4294967296) % Lm * 4294967296 + h % 4294967296) % Lm = (N * 18446744073709551616 + h) % Lm := by
  rw [Int.add_emod, Int.mul_emod, Int.emod_emod_of_dvd _ (Int.dvd_refl Lm), ← Int.mul_emod, ← Int.add_emod]
  congr 1
  omega
theorem Q8 (f : Nat → Int) : Q f 8 = (((((f 5 + f 6 * 18446744073709551616 + f 7 * 340282366920938463463374607431768211456) * 18446744073709551616 + f 4) * 18446744073709551616 + f 3) * 18446744073709551616 + f 2) * 18446744073709551616 + f 1) * 18446744073709551616 + f 0 := by
  simp [Q]
  omega
theorem md_all (f : Nat → Int) : md f 5 = Q f 8 % Lm := by
  rw [Q8]
  have s1 : md f 1 = ((f 5 + f 6 * 18446744073709551616 + f 7 * 340282366920938463463374607431768211456) * 18446744073709551616 + f 4) % Lm := rfl
  have s2 : md f 2 = (((f 5 + f 6 * 18446744073709551616 + f 7 * 340282366920938463463374607431768211456) * 18446744073709551616 + f 4) * 18446744073709551616 + f 3) % Lm := by
    show (md f 1 * 18446744073709551616 + f 3) % Lm = _
    rw [s1, md_step]
  have s3 : md f 3 = ((((f 5 + f 6 * 18446744073709551616 + f 7 * 340282366920938463463374607431768211456) * 18446744073709551616 + f 4) * 18446744073709551616 + f 3) * 18446744073709551616 + f 2) % Lm := by
    show (md f 2 * 18446744073709551616 + f 2) % Lm = _
    rw [s2, md_step]
  have s4 : md f 4 = (((((f 5 + f 6 * 18446744073709551616 + f 7 * 340282366920938463463374607431768211456) * 18446744073709551616 + f 4) * 18446744073709551616 + f 3) * 18446744073709551616 + f 2) * 18446744073709551616 + f 1) % Lm := by
    show (md f 3 * 18446744073709551616 + f 1) % Lm = _
    rw [s3, md_step]
  show (md f 4 * 18446744073709551616 + f 0) % Lm = _
  rw [s4, md_step]

theorem and32 {x : Int} (h : W64 x) : bits BinOp.and IntKind.u64 x 4294967295 = x % 4294967296 := by
  obtain ⟨X, rfl⟩ := Int.eq_ofNat_of_zero_le h.1
  have := h.2
  rw [maskN X (by omega)]
  omega

set_option maxRecDepth 100000 in
set_option maxHeartbeats 2000000 in
theorem modulo_any (f : Nat → Int) (w : World) (hf : Wds f 8) :
    Calls Try.prog 26 #[.agg (arr 8 f)] w fun x w' => x = .returned (.agg (arr 4 (d64 (Q f 8 % Lm)))) ∧ Below w.heap.size w w' := by
  rw [← md_all]
  have hm := md_bd hf
  have R1 : Row ((w.alloc (.cells (arr 8 f) 52)).alloc (.cells (arr 4 fun _ => 0) 27)) w.heap.size 52 8 f := (Row.new w 52 8 f).alloc _
  have R2 : Row ((w.alloc (.cells (arr 8 f) 52)).alloc (.cells (arr 4 fun _ => 0) 27)) (w.heap.size + 1) 27 4 (fun _ => 0) := Row.new' _ 27 4 _ (by simp)
  have O : Below w.heap.size w ((w.alloc (.cells (arr 8 f) 52)).alloc (.cells (arr 4 fun _ => 0) 27)) := ((Below.refl _ _).alloc (Nat.le_refl _) _).alloc (by simp) _
  have c5 : ((w.alloc (.cells (arr 8 f) 52)).alloc (.cells #[Value.int IntKind.u64 0, Value.int IntKind.u64 0, Value.int IntKind.u64 0, Value.int IntKind.u64 0] 27)).cell? ⟨w.heap.size, 5, none⟩ = some (.int .u64 (f 5)) := R1.cell (i := 5) (by omega)
  have c6 : ((w.alloc (.cells (arr 8 f) 52)).alloc (.cells #[Value.int IntKind.u64 0, Value.int IntKind.u64 0, Value.int IntKind.u64 0, Value.int IntKind.u64 0] 27)).cell? ⟨w.heap.size, 6, none⟩ = some (.int .u64 (f 6)) := R1.cell (i := 6) (by omega)
  have c7 : ((w.alloc (.cells (arr 8 f) 52)).alloc (.cells #[Value.int IntKind.u64 0, Value.int IntKind.u64 0, Value.int IntKind.u64 0, Value.int IntKind.u64 0] 27)).cell? ⟨w.heap.size, 7, none⟩ = some (.int .u64 (f 7)) := R1.cell (i := 7) (by omega)
  replace R1 := R1.alloc (.cells #[.int .u64 (f 5), .int .u64 (f 6), .int .u64 (f 7), .int .u64 0] 27)
  replace R2 := R2.alloc (.cells #[.int .u64 (f 5), .int .u64 (f 6), .int .u64 (f 7), .int .u64 0] 27)
  have RA : Row (((w.alloc (.cells (arr 8 f) 52)).alloc (.cells (arr 4 fun _ => 0) 27)).alloc (.cells #[.int .u64 (f 5), .int .u64 (f 6), .int .u64 (f 7), .int .u64 0] 27)) (w.heap.size + 1 + 1) 27 4 (fun i => [f 5, f 6, f 7, 0].getD i 0) := Row.new' _ 27 4 (fun i => [f 5, f 6, f 7, 0].getD i 0) (by simp)
  replace O := O.alloc (by simp; omega) (.cells #[.int .u64 (f 5), .int .u64 (f 6), .int .u64 (f 7), .int .u64 0] 27)
  replace RA := RA.congr (f' := d64 (md f 0)) (Q_inj (fun i hi => by
    rcases (show i = 0 ∨ i = 1 ∨ i = 2 ∨ i = 3 by omega) with rfl | rfl | rfl | rfl
    · exact hf 5 (by omega)
    · exact hf 6 (by omega)
    · exact hf 7 (by omega)
    · show W64 (0 : Int); exact ⟨by decide, by decide⟩) (d64_wds _ 4) (by
    rw [dQ (hm 0), Q4]
    show f 5 + f 6 * 18446744073709551616 + f 7 * 340282366920938463463374607431768211456 + 0 * 6277101735386680763835789423207666416102355444464034512896 = f 5 + f 6 * 18446744073709551616 + f 7 * 340282366920938463463374607431768211456
    omega))
  have HR := hide (And.intro R1 (And.intro R2 (And.intro RA O)))
  clear R1 R2 RA O
  go_enter Try.func26, Try.ntmps26
  go_wp2_with (refine wpList_build rfl 27 _ rfl #[.int .u64 (f 5), .int .u64 (f 6), .int .u64 (f 7), .int .u64 0] (by kernel_rfl) ?_)
  rw [show #[Value.int IntKind.u64 0, Value.int IntKind.u64 0, Value.int IntKind.u64 0, Value.int IntKind.u64 0] = arr 4 (fun _ => 0) from rfl]
  clear c5 c6 c7
  obtain ⟨R1, R2, RA, O⟩ := HR.out
  clear HR
  generalize (((w.alloc (.cells (arr 8 f) 52)).alloc (.cells (arr 4 fun _ => 0) 27)).alloc (.cells #[.int .u64 (f 5), .int .u64 (f 6), .int .u64 (f 7), .int .u64 0] 27)) = W at *
  go_loopw [14] (fun v wr => ∃ k : Nat, k ≤ 5 ∧ v = .int .i64 k ∧ Row wr w.heap.size 52 8 f ∧ Row wr (w.heap.size + 1) 27 4 (fun _ => 0) ∧ Row wr (w.heap.size + 1 + 1) 27 4 (d64 (md f k)) ∧ Below w.heap.size w wr) (fun v _ => 5 - (intOf v).toNat)
  case atStart => exact ⟨0, by omega, rfl, R1, R2, RA, O⟩
  case round =>
    clear R1 R2 RA O
    obtain ⟨k, hk, rfl, R1, R2, RA, O⟩ := hrel
    by_cases hlt : k < 5
    · rcases (show k = 0 ∨ k = 1 ∨ k = 2 ∨ k = 3 ∨ k = 4 by omega) with rfl | rfl | rfl | rfl | rfl
      · have c := R1.cell (i := 4) (by omega)
        obtain ⟨b0, b1⟩ := hf 4 (by omega)
        have ea := and32 (hf 4 (by omega))
        have HN := hide (hm 0)
        have HE := hide (show md f (0 + 1) = ((md f 0 * 4294967296 + f 4 / 4294967296) % Lm * 4294967296 + f 4 % 4294967296) % Lm from (md_half (md f 0) (f 4)).symm)
        have HA := hide RA
        have H1 := hide R1
        have HO := hide (And.intro R2 O)
        clear RA R1 R2 O
        generalize f 4 = v at *
        generalize md f 0 = N at *
        go_wp2_with (refine wpList_load_row rfl 27 _ rfl (w.heap.size + 1 + 1) rfl 27 (arr 4 (d64 N)) (0, 0) _ HA.out Try.underlying27 rfl (info27 _) ?_)
        refine (next_any N (v / 4294967296) _ HN.out (by omega) (by omega)).mono ?_
        rintro _ w1 ⟨rfl, hb1⟩
        have RA := HA.out.keep hb1
        have R1 := H1.out.keep hb1
        have R2 := HO.out.1.keep hb1
        have O := HO.out.2.trans (hb1.mono HO.out.2.size)
        clear hb1 HA H1 HO HN
        have HN := hide (lmod (N * 4294967296 + v / 4294967296))
        generalize (N * 4294967296 + v / 4294967296) % Lm = N2 at *
        go_wp2_with fail
        refine (next_any N2 (v % 4294967296) _ HN.out (by omega) (by omega)).mono ?_
        rintro _ w2 ⟨rfl, hb2⟩
        replace RA := RA.keep hb2
        replace R1 := R1.keep hb2
        replace R2 := R2.keep hb2
        replace O := O.trans (hb2.mono O.size)
        clear hb2 HN
        rw [← HE.out]
        generalize hN3 : md f (0 + 1) = N3 at *
        have HM0 := hide hN3
        clear hN3
        have RB := hide (RA.setAll (d64 N3))
        have R1' := hide (R1.setOther (k := w.heap.size + 1 + 1) (by omega) 0 (arr 4 (d64 N3)).toList)
        have R2' := hide (R2.setOther (k := w.heap.size + 1 + 1) (by omega) 0 (arr 4 (d64 N3)).toList)
        have O' := hide (below_setCells (g := w.heap.size + 1 + 1) (by omega) (arr 4 (d64 N3)).toList 0 O)
        clear R1 R2 O
        go_wp2_with (refine wpList_store_mid rfl 27 _ _ rfl (w.heap.size + 1 + 1) 0 (arr 4 (d64 N3)) rfl rfl ?thm0 (info27 _) (arr_one _ _) ?_)
        case thm0 => rw [arr_size]; exact RA.there
        go_roundw
        case rel => exact ⟨0 + 1, by omega, rfl, R1'.out, R2'.out, (by rw [HM0.out]; exact RB.out), O'.out⟩
        case measure => simp [intOf]
      · have c := R1.cell (i := 3) (by omega)
        obtain ⟨b0, b1⟩ := hf 3 (by omega)
        have ea := and32 (hf 3 (by omega))
        have HN := hide (hm 1)
        have HE := hide (show md f (1 + 1) = ((md f 1 * 4294967296 + f 3 / 4294967296) % Lm * 4294967296 + f 3 % 4294967296) % Lm from (md_half (md f 1) (f 3)).symm)
        have HA := hide RA
        have H1 := hide R1
        have HO := hide (And.intro R2 O)
        clear RA R1 R2 O
        generalize f 3 = v at *
        generalize md f 1 = N at *
        go_wp2_with (refine wpList_load_row rfl 27 _ rfl (w.heap.size + 1 + 1) rfl 27 (arr 4 (d64 N)) (0, 0) _ HA.out Try.underlying27 rfl (info27 _) ?_)
        refine (next_any N (v / 4294967296) _ HN.out (by omega) (by omega)).mono ?_
        rintro _ w1 ⟨rfl, hb1⟩
        have RA := HA.out.keep hb1
        have R1 := H1.out.keep hb1
        have R2 := HO.out.1.keep hb1
        have O := HO.out.2.trans (hb1.mono HO.out.2.size)
        clear hb1 HA H1 HO HN
        have HN := hide (lmod (N * 4294967296 + v / 4294967296))
        generalize (N * 4294967296 + v / 4294967296) % Lm = N2 at *
        go_wp2_with fail
        refine (next_any N2 (v % 4294967296) _ HN.out (by omega) (by omega)).mono ?_
        rintro _ w2 ⟨rfl, hb2⟩
        replace RA := RA.keep hb2
        replace R1 := R1.keep hb2
        replace R2 := R2.keep hb2
        replace O := O.trans (hb2.mono O.size)
        clear hb2 HN
        rw [← HE.out]
        generalize hN3 : md f (1 + 1) = N3 at *
        have HM1 := hide hN3
        clear hN3
        have RB := hide (RA.setAll (d64 N3))
        have R1' := hide (R1.setOther (k := w.heap.size + 1 + 1) (by omega) 0 (arr 4 (d64 N3)).toList)
        have R2' := hide (R2.setOther (k := w.heap.size + 1 + 1) (by omega) 0 (arr 4 (d64 N3)).toList)
        have O' := hide (below_setCells (g := w.heap.size + 1 + 1) (by omega) (arr 4 (d64 N3)).toList 0 O)
        clear R1 R2 O
        go_wp2_with (refine wpList_store_mid rfl 27 _ _ rfl (w.heap.size + 1 + 1) 0 (arr 4 (d64 N3)) rfl rfl ?thm1 (info27 _) (arr_one _ _) ?_)
        case thm1 => rw [arr_size]; exact RA.there
        go_roundw
        case rel => exact ⟨1 + 1, by omega, rfl, R1'.out, R2'.out, (by rw [HM1.out]; exact RB.out), O'.out⟩
        case measure => simp [intOf]
      · have c := R1.cell (i := 2) (by omega)
        obtain ⟨b0, b1⟩ := hf 2 (by omega)
        have ea := and32 (hf 2 (by omega))
        have HN := hide (hm 2)
        have HE := hide (show md f (2 + 1) = ((md f 2 * 4294967296 + f 2 / 4294967296) % Lm * 4294967296 + f 2 % 4294967296) % Lm from (md_half (md f 2) (f 2)).symm)
        have HA := hide RA
        have H1 := hide R1
        have HO := hide (And.intro R2 O)
        clear RA R1 R2 O
        generalize f 2 = v at *
        generalize md f 2 = N at *
        go_wp2_with (refine wpList_load_row rfl 27 _ rfl (w.heap.size + 1 + 1) rfl 27 (arr 4 (d64 N)) (0, 0) _ HA.out Try.underlying27 rfl (info27 _) ?_)
        refine (next_any N (v / 4294967296) _ HN.out (by omega) (by omega)).mono ?_
        rintro _ w1 ⟨rfl, hb1⟩
        have RA := HA.out.keep hb1
        have R1 := H1.out.keep hb1
        have R2 := HO.out.1.keep hb1
        have O := HO.out.2.trans (hb1.mono HO.out.2.size)
        clear hb1 HA H1 HO HN
        have HN := hide (lmod (N * 4294967296 + v / 4294967296))
        generalize (N * 4294967296 + v / 4294967296) % Lm = N2 at *
        go_wp2_with fail
        refine (next_any N2 (v % 4294967296) _ HN.out (by omega) (by omega)).mono ?_
        rintro _ w2 ⟨rfl, hb2⟩
        replace RA := RA.keep hb2
        replace R1 := R1.keep hb2
        replace R2 := R2.keep hb2
        replace O := O.trans (hb2.mono O.size)
        clear hb2 HN
        rw [← HE.out]
        generalize hN3 : md f (2 + 1) = N3 at *
        have HM2 := hide hN3
        clear hN3
        have RB := hide (RA.setAll (d64 N3))
        have R1' := hide (R1.setOther (k := w.heap.size + 1 + 1) (by omega) 0 (arr 4 (d64 N3)).toList)
        have R2' := hide (R2.setOther (k := w.heap.size + 1 + 1) (by omega) 0 (arr 4 (d64 N3)).toList)
        have O' := hide (below_setCells (g := w.heap.size + 1 + 1) (by omega) (arr 4 (d64 N3)).toList 0 O)
        clear R1 R2 O
        go_wp2_with (refine wpList_store_mid rfl 27 _ _ rfl (w.heap.size + 1 + 1) 0 (arr 4 (d64 N3)) rfl rfl ?thm2 (info27 _) (arr_one _ _) ?_)
        case thm2 => rw [arr_size]; exact RA.there
        go_roundw
        case rel => exact ⟨2 + 1, by omega, rfl, R1'.out, R2'.out, (by rw [HM2.out]; exact RB.out), O'.out⟩
        case measure => simp [intOf]
      · have c := R1.cell (i := 1) (by omega)
        obtain ⟨b0, b1⟩ := hf 1 (by omega)
        have ea := and32 (hf 1 (by omega))
        have HN := hide (hm 3)
        have HE := hide (show md f (3 + 1) = ((md f 3 * 4294967296 + f 1 / 4294967296) % Lm * 4294967296 + f 1 % 4294967296) % Lm from (md_half (md f 3) (f 1)).symm)
        have HA := hide RA
        have H1 := hide R1
        have HO := hide (And.intro R2 O)
        clear RA R1 R2 O
        generalize f 1 = v at *
        generalize md f 3 = N at *
        go_wp2_with (refine wpList_load_row rfl 27 _ rfl (w.heap.size + 1 + 1) rfl 27 (arr 4 (d64 N)) (0, 0) _ HA.out Try.underlying27 rfl (info27 _) ?_)
        refine (next_any N (v / 4294967296) _ HN.out (by omega) (by omega)).mono ?_
        rintro _ w1 ⟨rfl, hb1⟩
        have RA := HA.out.keep hb1
        have R1 := H1.out.keep hb1
        have R2 := HO.out.1.keep hb1
        have O := HO.out.2.trans (hb1.mono HO.out.2.size)
        clear hb1 HA H1 HO HN
        have HN := hide (lmod (N * 4294967296 + v / 4294967296))
        generalize (N * 4294967296 + v / 4294967296) % Lm = N2 at *
        go_wp2_with fail
        refine (next_any N2 (v % 4294967296) _ HN.out (by omega) (by omega)).mono ?_
        rintro _ w2 ⟨rfl, hb2⟩
        replace RA := RA.keep hb2
        replace R1 := R1.keep hb2
        replace R2 := R2.keep hb2
        replace O := O.trans (hb2.mono O.size)
        clear hb2 HN
        rw [← HE.out]
        generalize hN3 : md f (3 + 1) = N3 at *
        have HM3 := hide hN3
        clear hN3
        have RB := hide (RA.setAll (d64 N3))
        have R1' := hide (R1.setOther (k := w.heap.size + 1 + 1) (by omega) 0 (arr 4 (d64 N3)).toList)
        have R2' := hide (R2.setOther (k := w.heap.size + 1 + 1) (by omega) 0 (arr 4 (d64 N3)).toList)
        have O' := hide (below_setCells (g := w.heap.size + 1 + 1) (by omega) (arr 4 (d64 N3)).toList 0 O)
        clear R1 R2 O
        go_wp2_with (refine wpList_store_mid rfl 27 _ _ rfl (w.heap.size + 1 + 1) 0 (arr 4 (d64 N3)) rfl rfl ?thm3 (info27 _) (arr_one _ _) ?_)
        case thm3 => rw [arr_size]; exact RA.there
        go_roundw
        case rel => exact ⟨3 + 1, by omega, rfl, R1'.out, R2'.out, (by rw [HM3.out]; exact RB.out), O'.out⟩
        case measure => simp [intOf]
      · have c := R1.cell (i := 0) (by omega)
        obtain ⟨b0, b1⟩ := hf 0 (by omega)
        have ea := and32 (hf 0 (by omega))
        have HN := hide (hm 4)
        have HE := hide (show md f (4 + 1) = ((md f 4 * 4294967296 + f 0 / 4294967296) % Lm * 4294967296 + f 0 % 4294967296) % Lm from (md_half (md f 4) (f 0)).symm)
        have HA := hide RA
        have H1 := hide R1
        have HO := hide (And.intro R2 O)
        clear RA R1 R2 O
        generalize f 0 = v at *
        generalize md f 4 = N at *
        go_wp2_with (refine wpList_load_row rfl 27 _ rfl (w.heap.size + 1 + 1) rfl 27 (arr 4 (d64 N)) (0, 0) _ HA.out Try.underlying27 rfl (info27 _) ?_)
        refine (next_any N (v / 4294967296) _ HN.out (by omega) (by omega)).mono ?_
        rintro _ w1 ⟨rfl, hb1⟩
        have RA := HA.out.keep hb1
        have R1 := H1.out.keep hb1
        have R2 := HO.out.1.keep hb1
        have O := HO.out.2.trans (hb1.mono HO.out.2.size)
        clear hb1 HA H1 HO HN
        have HN := hide (lmod (N * 4294967296 + v / 4294967296))
        generalize (N * 4294967296 + v / 4294967296) % Lm = N2 at *
        go_wp2_with fail
        refine (next_any N2 (v % 4294967296) _ HN.out (by omega) (by omega)).mono ?_
        rintro _ w2 ⟨rfl, hb2⟩
        replace RA := RA.keep hb2
        replace R1 := R1.keep hb2
        replace R2 := R2.keep hb2
        replace O := O.trans (hb2.mono O.size)
        clear hb2 HN
        rw [← HE.out]
        generalize hN3 : md f (4 + 1) = N3 at *
        have HM4 := hide hN3
        clear hN3
        have RB := hide (RA.setAll (d64 N3))
        have R1' := hide (R1.setOther (k := w.heap.size + 1 + 1) (by omega) 0 (arr 4 (d64 N3)).toList)
        have R2' := hide (R2.setOther (k := w.heap.size + 1 + 1) (by omega) 0 (arr 4 (d64 N3)).toList)
        have O' := hide (below_setCells (g := w.heap.size + 1 + 1) (by omega) (arr 4 (d64 N3)).toList 0 O)
        clear R1 R2 O
        go_wp2_with (refine wpList_store_mid rfl 27 _ _ rfl (w.heap.size + 1 + 1) 0 (arr 4 (d64 N3)) rfl rfl ?thm4 (info27 _) (arr_one _ _) ?_)
        case thm4 => rw [arr_size]; exact RA.there
        go_roundw
        case rel => exact ⟨4 + 1, by omega, rfl, R1'.out, R2'.out, (by rw [HM4.out]; exact RB.out), O'.out⟩
        case measure => simp [intOf]
    · have hk' : k = 5 := by omega
      subst hk'
      have RR := hide (R2.setAll (d64 (md f 5)))
      have OO := hide (below_setCells (g := w.heap.size + 1) (by omega) (arr 4 (d64 (md f 5))).toList 0 O)
      have HX := hide RA
      clear RA O R1
      generalize hN5 : md f 5 = N at *
      have H5 := hide hN5
      clear hN5
      go_wp2_with (first | (refine wpList_load_row rfl 27 _ rfl (w.heap.size + 1 + 1) rfl 27 (arr 4 (d64 N)) (0, 0) _ HX.out Try.underlying27 rfl (info27 _) ?_) | (refine wpList_store_mid rfl 27 _ _ rfl (w.heap.size + 1) 0 (arr 4 (d64 N)) rfl rfl ?the (info27 _) (arr_one _ _) ?_))
      case the => rw [arr_size]; exact R2.there
      exact bodyPost_ret (v := .agg (arr 4 (d64 N))) (results_cell_row Try.results26 _ _ (w.heap.size + 1) 27 (arr 4 (d64 N)) (0, 0) _ rfl RR.out Try.underlying27 rfl (info27 _)) rfl ⟨by rw [H5.out], OO.out⟩

end Go.Proofs.Ytaaijicpdampiaa
