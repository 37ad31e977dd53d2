/- The contract of alive: two make one key. -/
import Derived.Test.YtiiniodidkfbiaaVal
namespace Go.Proofs.Ytiiniodidkfbiaa
open Go.RowKit

def z31S : ByteArray := bs (List.replicate 31 0)

theorem run_cat {a : Act} {o : Oper} {W : World} (A B C : ByteArray) (x y : Operand) (rt : TypeId) (ho : o.op = .binOp .add 9 x y rt) (hx : a.eval x = .string A) (hy : a.eval y = .string B) (hA : A.size = 31) (hB : B.size = 1) (hC : A ++ B = C) : (execOp a.eval o).run Try.prog W = .ok (.value (.string C)) W := by
  have h := run_string_add (P := Try.prog) W A B (by omega) (by omega)
  rw [hC] at h
  unfold execOp
  simp only [ho, hx, hy]
  simp [eqGuard, binOp, h, go_sem]

theorem pV_bd : 0 ≤ pV ∧ pV < Pm := by decide
theorem qV_bd : 0 ≤ qV ∧ qV < Pm := by decide
theorem leb_size (N : Int) : (lebytes N).size = 32 := by
  unfold lebytes
  rw [bs_size]
  rfl
theorem val_leb {W : Int} (hW : 0 ≤ W ∧ W < Pm) : val (mkS (lebytes W)) % Pm = W := by rw [leb_rb hW]; exact mk_leb hW

theorem sS_ne {V : Int} (h : V ≠ 0) : sS V = lebytes V := by unfold sS; rw [if_neg h]
theorem sC_ne {V : Int} (h : V ≠ 0) : sC V = 0 := by unfold sC; rw [if_neg h]

theorem pub_no (s : ByteArray) (w : World) (hs : s.size ≠ 32) :
    Calls Try.prog 10 #[.string s] w fun r w' => r = .returned (.tuple #[.string ⟨#[]⟩, .int .i64 2]) ∧ Below w.heap.size w w' :=
  public_gen s _ _ w fun w => shared_no1 s nineS w hs

set_option maxRecDepth 100000 in
set_option maxHeartbeats 2000000 in
theorem alive_any (w : World) : Calls Try.prog 7 #[] w fun r w' => r = .returned (.bool true) ∧ Below w.heap.size w w' := by
  have A1 : Hid (∀ w, Calls Try.prog 10 #[.string aS] w fun r w' => r = .returned (.tuple #[.string (lebytes pV), .int .i64 0]) ∧ Below w.heap.size w w') := hide fun w => by
    have h := pub_any aS w pV aS_size (by rw [v9]; exact sh_a)
    rwa [sS_ne (by decide), sC_ne (by decide)] at h
  have A2 : Hid (∀ w, Calls Try.prog 10 #[.string bbS] w fun r w' => r = .returned (.tuple #[.string (lebytes qV), .int .i64 0]) ∧ Below w.heap.size w w') := hide fun w => by
    have h := pub_any bbS w qV bbS_size (by rw [v9]; exact sh_b)
    rwa [sS_ne (by decide), sC_ne (by decide)] at h
  have A3 : Hid (∀ w, Calls Try.prog 8 #[.string aS, .string (lebytes qV)] w fun r w' => r = .returned (.tuple #[.string (lebytes sV), .int .i64 0]) ∧ Below w.heap.size w w') := hide fun w => by
    have h := sh_any aS (lebytes qV) w sV aS_size (leb_size _) (by rw [val_leb qV_bd]; exact sh_ab)
    rwa [sS_ne (by decide), sC_ne (by decide)] at h
  have A4 : Hid (∀ w, Calls Try.prog 8 #[.string bbS, .string (lebytes pV)] w fun r w' => r = .returned (.tuple #[.string (lebytes sV), .int .i64 0]) ∧ Below w.heap.size w w') := hide fun w => by
    have h := sh_any bbS (lebytes pV) w sV bbS_size (leb_size _) (by rw [val_leb pV_bd]; exact sh_ba)
    rwa [sS_ne (by decide), sC_ne (by decide)] at h
  have A5 : Hid (∀ w, Calls Try.prog 8 #[.string aS, .string z32S] w fun r w' => r = .returned (.tuple #[.string ⟨#[]⟩, .int .i64 30]) ∧ Below w.heap.size w w') := hide fun w => by
    have h := sh_any aS z32S w 0 aS_size z32_size (by rw [v0]; exact sh_a0)
    exact h
  have A6 := hide fun w => pub_no ⟨#[115, 104, 111, 114, 116]⟩ w (by decide)
  have s1 := leb_size sV
  have Z1 : Hid (∀ w : World, (Instr.makeSlice 32 (.int .i64 32) (.int .i64 32)).run Try.prog w = .ok (.slice (some ⟨w.heap.size, 0, none⟩) 32 32) (w.alloc (.cells #[Value.int IntKind.u8 0, Value.int IntKind.u8 0, Value.int IntKind.u8 0, Value.int IntKind.u8 0, Value.int IntKind.u8 0, Value.int IntKind.u8 0, Value.int IntKind.u8 0, Value.int IntKind.u8 0, Value.int IntKind.u8 0, Value.int IntKind.u8 0, Value.int IntKind.u8 0, Value.int IntKind.u8 0, Value.int IntKind.u8 0, Value.int IntKind.u8 0, Value.int IntKind.u8 0, Value.int IntKind.u8 0, Value.int IntKind.u8 0, Value.int IntKind.u8 0, Value.int IntKind.u8 0, Value.int IntKind.u8 0, Value.int IntKind.u8 0, Value.int IntKind.u8 0, Value.int IntKind.u8 0, Value.int IntKind.u8 0, Value.int IntKind.u8 0, Value.int IntKind.u8 0, Value.int IntKind.u8 0, Value.int IntKind.u8 0, Value.int IntKind.u8 0, Value.int IntKind.u8 0, Value.int IntKind.u8 0, Value.int IntKind.u8 0] 5))) := hide fun w => by kernel_rfl
  have Z2 : Hid (∀ w : World, (convert 32 9 (.slice (some ⟨w.heap.size, 0, none⟩) 32 32)).run Try.prog (w.alloc (.cells #[Value.int IntKind.u8 0, Value.int IntKind.u8 0, Value.int IntKind.u8 0, Value.int IntKind.u8 0, Value.int IntKind.u8 0, Value.int IntKind.u8 0, Value.int IntKind.u8 0, Value.int IntKind.u8 0, Value.int IntKind.u8 0, Value.int IntKind.u8 0, Value.int IntKind.u8 0, Value.int IntKind.u8 0, Value.int IntKind.u8 0, Value.int IntKind.u8 0, Value.int IntKind.u8 0, Value.int IntKind.u8 0, Value.int IntKind.u8 0, Value.int IntKind.u8 0, Value.int IntKind.u8 0, Value.int IntKind.u8 0, Value.int IntKind.u8 0, Value.int IntKind.u8 0, Value.int IntKind.u8 0, Value.int IntKind.u8 0, Value.int IntKind.u8 0, Value.int IntKind.u8 0, Value.int IntKind.u8 0, Value.int IntKind.u8 0, Value.int IntKind.u8 0, Value.int IntKind.u8 0, Value.int IntKind.u8 0, Value.int IntKind.u8 0] 5)) = .ok (.string z32S) (w.alloc (.cells #[Value.int IntKind.u8 0, Value.int IntKind.u8 0, Value.int IntKind.u8 0, Value.int IntKind.u8 0, Value.int IntKind.u8 0, Value.int IntKind.u8 0, Value.int IntKind.u8 0, Value.int IntKind.u8 0, Value.int IntKind.u8 0, Value.int IntKind.u8 0, Value.int IntKind.u8 0, Value.int IntKind.u8 0, Value.int IntKind.u8 0, Value.int IntKind.u8 0, Value.int IntKind.u8 0, Value.int IntKind.u8 0, Value.int IntKind.u8 0, Value.int IntKind.u8 0, Value.int IntKind.u8 0, Value.int IntKind.u8 0, Value.int IntKind.u8 0, Value.int IntKind.u8 0, Value.int IntKind.u8 0, Value.int IntKind.u8 0, Value.int IntKind.u8 0, Value.int IntKind.u8 0, Value.int IntKind.u8 0, Value.int IntKind.u8 0, Value.int IntKind.u8 0, Value.int IntKind.u8 0, Value.int IntKind.u8 0, Value.int IntKind.u8 0] 5))) := hide fun w => conv_bytes _ w.heap.size 5 (List.replicate 32 0) 32 32 (0, 0) (heap_alloc_new w _) rfl
  go_enter Try.func7, Try.ntmps7
  go_upto_region 1 with fail
  refine wp_region_lit ?_
  refine wpList_new rfl (fun g => .slice (some ⟨g, 0, none⟩) 31 31) (.cells #[Value.int IntKind.u8 0, Value.int IntKind.u8 0, Value.int IntKind.u8 0, Value.int IntKind.u8 0, Value.int IntKind.u8 0, Value.int IntKind.u8 0, Value.int IntKind.u8 0, Value.int IntKind.u8 0, Value.int IntKind.u8 0, Value.int IntKind.u8 0, Value.int IntKind.u8 0, Value.int IntKind.u8 0, Value.int IntKind.u8 0, Value.int IntKind.u8 0, Value.int IntKind.u8 0, Value.int IntKind.u8 0, Value.int IntKind.u8 0, Value.int IntKind.u8 0, Value.int IntKind.u8 0, Value.int IntKind.u8 0, Value.int IntKind.u8 0, Value.int IntKind.u8 0, Value.int IntKind.u8 0, Value.int IntKind.u8 0, Value.int IntKind.u8 0, Value.int IntKind.u8 0, Value.int IntKind.u8 0, Value.int IntKind.u8 0, Value.int IntKind.u8 0, Value.int IntKind.u8 0, Value.int IntKind.u8 0] 5) (fun _ => by kernel_rfl) ?_
  intro g1 w1 Z1 _ hb
  have O := hb
  clear hb
  refine wpList_to rfl (.string z31S) w1 (run_conv_op _ rfl (by kernel_rfl) (conv_bytes w1 g1 5 (List.replicate 31 0) 31 31 (0, 0) Z1 rfl)) ?_
  refine wpList_to rfl (.string aS) w1 (run_cat z31S ⟨#[97]⟩ aS _ _ _ rfl (by kernel_rfl) (by kernel_rfl) (by decide +kernel) (by decide +kernel) (by decide +kernel)) ?_
  clear Z1
  refine wpList_value rfl (.string aS) (fun _ => by kernel_rfl) ?_
  refine wpList_nil ?_
  go_simp
  go_upto_region 2 with fail
  refine wp_region_lit ?_
  refine wpList_new rfl (fun g => .slice (some ⟨g, 0, none⟩) 31 31) (.cells #[Value.int IntKind.u8 0, Value.int IntKind.u8 0, Value.int IntKind.u8 0, Value.int IntKind.u8 0, Value.int IntKind.u8 0, Value.int IntKind.u8 0, Value.int IntKind.u8 0, Value.int IntKind.u8 0, Value.int IntKind.u8 0, Value.int IntKind.u8 0, Value.int IntKind.u8 0, Value.int IntKind.u8 0, Value.int IntKind.u8 0, Value.int IntKind.u8 0, Value.int IntKind.u8 0, Value.int IntKind.u8 0, Value.int IntKind.u8 0, Value.int IntKind.u8 0, Value.int IntKind.u8 0, Value.int IntKind.u8 0, Value.int IntKind.u8 0, Value.int IntKind.u8 0, Value.int IntKind.u8 0, Value.int IntKind.u8 0, Value.int IntKind.u8 0, Value.int IntKind.u8 0, Value.int IntKind.u8 0, Value.int IntKind.u8 0, Value.int IntKind.u8 0, Value.int IntKind.u8 0, Value.int IntKind.u8 0] 5) (fun _ => by kernel_rfl) ?_
  intro g2 w2 Z2 _ hb
  replace O := O.trans (hb.mono O.size)
  clear hb
  refine wpList_to rfl (.string z31S) w2 (run_conv_op _ rfl (by kernel_rfl) (conv_bytes w2 g2 5 (List.replicate 31 0) 31 31 (0, 0) Z2 rfl)) ?_
  refine wpList_to rfl (.string bbS) w2 (run_cat z31S ⟨#[98]⟩ bbS _ _ _ rfl (by kernel_rfl) (by kernel_rfl) (by decide +kernel) (by decide +kernel) (by decide +kernel)) ?_
  clear Z2
  refine wpList_value rfl (.string bbS) (fun _ => by kernel_rfl) ?_
  refine wpList_nil ?_
  go_simp
  generalize aS = a at *
  generalize bbS = b at *
  generalize lebytes pV = p at *
  generalize lebytes qV = q at *
  generalize lebytes sV = s at *
  generalize z32S = z at *
  go_wp2_with fail
  refine (A1.out _).mono ?_
  rintro _ w3 ⟨rfl, hb⟩
  replace O := O.trans (hb.mono O.size)
  clear hb
  go_wp2_with fail
  refine (A2.out _).mono ?_
  rintro _ w4 ⟨rfl, hb⟩
  replace O := O.trans (hb.mono O.size)
  clear hb
  go_wp2_with fail
  refine (A3.out _).mono ?_
  rintro _ w5 ⟨rfl, hb⟩
  replace O := O.trans (hb.mono O.size)
  clear hb
  go_wp2_with fail
  refine (A4.out _).mono ?_
  rintro _ w6 ⟨rfl, hb⟩
  replace O := O.trans (hb.mono O.size)
  clear hb
  clear A1 A2 A3 A4
  have m1 := Z1.out w6
  have m2 := Z2.out w6
  have O' := hide (O.trans ((new_below w6 (.cells #[Value.int IntKind.u8 0, Value.int IntKind.u8 0, Value.int IntKind.u8 0, Value.int IntKind.u8 0, Value.int IntKind.u8 0, Value.int IntKind.u8 0, Value.int IntKind.u8 0, Value.int IntKind.u8 0, Value.int IntKind.u8 0, Value.int IntKind.u8 0, Value.int IntKind.u8 0, Value.int IntKind.u8 0, Value.int IntKind.u8 0, Value.int IntKind.u8 0, Value.int IntKind.u8 0, Value.int IntKind.u8 0, Value.int IntKind.u8 0, Value.int IntKind.u8 0, Value.int IntKind.u8 0, Value.int IntKind.u8 0, Value.int IntKind.u8 0, Value.int IntKind.u8 0, Value.int IntKind.u8 0, Value.int IntKind.u8 0, Value.int IntKind.u8 0, Value.int IntKind.u8 0, Value.int IntKind.u8 0, Value.int IntKind.u8 0, Value.int IntKind.u8 0, Value.int IntKind.u8 0, Value.int IntKind.u8 0, Value.int IntKind.u8 0] 5)).mono O.size))
  clear Z1 Z2 O
  go_wp2_with fail
  refine (A5.out _).mono ?_
  rintro _ w7 ⟨rfl, hb⟩
  have O := O'.out.trans (hb.mono O'.out.size)
  clear hb O' m1 m2 A5
  go_wp2_with fail
  refine (A6.out _).mono ?_
  rintro _ w8 ⟨rfl, hb⟩
  replace O := O.trans (hb.mono O.size)
  clear hb
  clear A6
  have hcc : (s.toList == s.toList) = true := by simp
  go_wp2
  go_ret
  exact ⟨rfl, O⟩

end Go.Proofs.Ytiiniodidkfbiaa
