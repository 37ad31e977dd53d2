/- For any two strings the law MontShared returns true, and the arguments read afterwards as they read before; no condition. -/
import Derived.Test.YtiiniodidkfbiaaBoth
import Derived.ProofKit
import Derived.OpenShut
import Derived.ShutString
namespace Go.Proofs.Ytiiniodidkfbiaa
open Go.ChangeShapes Go.WideShapes Go.ChangeAt Go.RowKit
open Go.ChangeMaps (open_string shut_string)

section
theorem rlad_leb (s p : ByteArray) (w : World) (V : Int) (hs : s.size = 32) (hp : p.size = 32) (hV : shV (clS s) (val (mkS p) % Pm) = V) :
    Calls Try.prog 19 #[.string s, .string p] w fun r w' => r = .returned (.string (lebytes V)) ∧ Below w.heap.size w w' := by
  have h := ladder_any s p w hs hp
  have e : lebytes V = bs (rb (d16 ((rladF (clS s) (val (mkS p) % Pm) 255).x2 * pwm (rladF (clS s) (val (mkS p) % Pm) 255).z2 (xbit 255 21) 255 % Pm)) 32) := by
    rw [← hV]
    exact leb_rb (shV_bd _ _)
  rwa [← e] at h
theorem leb_z : lebytes 0 = z32S := by decide +kernel
theorem ba_inj {a b : ByteArray} (h : a.toList = b.toList) : a = b := by
  rw [ByteArray.toList_eq, ByteArray.toList_eq] at h
  cases a
  cases b
  simp at h
  rw [h]
theorem leb_nz {V : Int} (hb : 0 ≤ V ∧ V < Pm) (h : V ≠ 0) : ((lebytes V).toList == z32S.toList) = false := by
  rw [beq_eq_false_iff_ne]
  intro e
  have e2 := ba_inj e
  have h1 := val_leb hb
  rw [e2, v0] at h1
  exact h h1.symm

theorem mk32 (w : World) : (Instr.makeSlice 32 (.int .i64 32) (.int .i64 32)).run Try.prog w = .ok (.slice (some ⟨w.heap.size, 0, none⟩) 32 32) (w.alloc (.cells #[Value.int IntKind.u8 0, Value.int IntKind.u8 0, Value.int IntKind.u8 0, Value.int IntKind.u8 0, Value.int IntKind.u8 0, Value.int IntKind.u8 0, Value.int IntKind.u8 0, Value.int IntKind.u8 0, Value.int IntKind.u8 0, Value.int IntKind.u8 0, Value.int IntKind.u8 0, Value.int IntKind.u8 0, Value.int IntKind.u8 0, Value.int IntKind.u8 0, Value.int IntKind.u8 0, Value.int IntKind.u8 0, Value.int IntKind.u8 0, Value.int IntKind.u8 0, Value.int IntKind.u8 0, Value.int IntKind.u8 0, Value.int IntKind.u8 0, Value.int IntKind.u8 0, Value.int IntKind.u8 0, Value.int IntKind.u8 0, Value.int IntKind.u8 0, Value.int IntKind.u8 0, Value.int IntKind.u8 0, Value.int IntKind.u8 0, Value.int IntKind.u8 0, Value.int IntKind.u8 0, Value.int IntKind.u8 0, Value.int IntKind.u8 0] 5)) := by kernel_rfl
theorem cv32 (w : World) : (convert 32 9 (.slice (some ⟨w.heap.size, 0, none⟩) 32 32)).run Try.prog (w.alloc (.cells #[Value.int IntKind.u8 0, Value.int IntKind.u8 0, Value.int IntKind.u8 0, Value.int IntKind.u8 0, Value.int IntKind.u8 0, Value.int IntKind.u8 0, Value.int IntKind.u8 0, Value.int IntKind.u8 0, Value.int IntKind.u8 0, Value.int IntKind.u8 0, Value.int IntKind.u8 0, Value.int IntKind.u8 0, Value.int IntKind.u8 0, Value.int IntKind.u8 0, Value.int IntKind.u8 0, Value.int IntKind.u8 0, Value.int IntKind.u8 0, Value.int IntKind.u8 0, Value.int IntKind.u8 0, Value.int IntKind.u8 0, Value.int IntKind.u8 0, Value.int IntKind.u8 0, Value.int IntKind.u8 0, Value.int IntKind.u8 0, Value.int IntKind.u8 0, Value.int IntKind.u8 0, Value.int IntKind.u8 0, Value.int IntKind.u8 0, Value.int IntKind.u8 0, Value.int IntKind.u8 0, Value.int IntKind.u8 0, Value.int IntKind.u8 0] 5)) = .ok (.string z32S) (w.alloc (.cells #[Value.int IntKind.u8 0, Value.int IntKind.u8 0, Value.int IntKind.u8 0, Value.int IntKind.u8 0, Value.int IntKind.u8 0, Value.int IntKind.u8 0, Value.int IntKind.u8 0, Value.int IntKind.u8 0, Value.int IntKind.u8 0, Value.int IntKind.u8 0, Value.int IntKind.u8 0, Value.int IntKind.u8 0, Value.int IntKind.u8 0, Value.int IntKind.u8 0, Value.int IntKind.u8 0, Value.int IntKind.u8 0, Value.int IntKind.u8 0, Value.int IntKind.u8 0, Value.int IntKind.u8 0, Value.int IntKind.u8 0, Value.int IntKind.u8 0, Value.int IntKind.u8 0, Value.int IntKind.u8 0, Value.int IntKind.u8 0, Value.int IntKind.u8 0, Value.int IntKind.u8 0, Value.int IntKind.u8 0, Value.int IntKind.u8 0, Value.int IntKind.u8 0, Value.int IntKind.u8 0, Value.int IntKind.u8 0, Value.int IntKind.u8 0] 5)) := conv_bytes _ w.heap.size 5 (List.replicate 32 0) 32 32 (0, 0) (heap_alloc_new w _) rfl

set_option maxRecDepth 100000 in
set_option maxHeartbeats 2000000 in
theorem rsh_z (s p S : ByteArray) (w : World) (hs : s.size = 32) (hp : p.size = 32) (H : ∀ w, Calls Try.prog 19 #[.string s, .string p] w fun r w' => r = .returned (.string S) ∧ Below w.heap.size w w') (hc : (S.toList == z32S.toList) = true) :
    Calls Try.prog 9 #[.string s, .string p] w fun r w' => r = .returned (.tuple #[.string ⟨#[]⟩, .int .i64 30]) ∧ Below w.heap.size w w' := by
  have n1 : ((s.size : Int) != 32) = false := by simp [hs]
  have n2 : ((p.size : Int) != 32) = false := by simp [hp]
  clear hs hp
  have H1 := hide H
  have Z1 := hide mk32
  have Z2 := hide cv32
  clear H
  generalize z32S = z at *
  go_enter Try.func9, Try.ntmps9
  go_wp2_with fail
  refine (H1.out _).mono ?_
  rintro _ w1 ⟨rfl, O⟩
  have m1 := Z1.out w1
  have m2 := Z2.out w1
  have O' := hide (O.trans ((new_below w1 (.cells #[Value.int IntKind.u8 0, Value.int IntKind.u8 0, Value.int IntKind.u8 0, Value.int IntKind.u8 0, Value.int IntKind.u8 0, Value.int IntKind.u8 0, Value.int IntKind.u8 0, Value.int IntKind.u8 0, Value.int IntKind.u8 0, Value.int IntKind.u8 0, Value.int IntKind.u8 0, Value.int IntKind.u8 0, Value.int IntKind.u8 0, Value.int IntKind.u8 0, Value.int IntKind.u8 0, Value.int IntKind.u8 0, Value.int IntKind.u8 0, Value.int IntKind.u8 0, Value.int IntKind.u8 0, Value.int IntKind.u8 0, Value.int IntKind.u8 0, Value.int IntKind.u8 0, Value.int IntKind.u8 0, Value.int IntKind.u8 0, Value.int IntKind.u8 0, Value.int IntKind.u8 0, Value.int IntKind.u8 0, Value.int IntKind.u8 0, Value.int IntKind.u8 0, Value.int IntKind.u8 0, Value.int IntKind.u8 0, Value.int IntKind.u8 0] 5)).mono O.size))
  clear Z1 Z2 H1
  go_wp2_with fail
  exact bodyPost_ret (v := .tuple #[.string ⟨#[]⟩, .int .i64 30]) (by simp [results, Try.results9, go_sem]) rfl ⟨rfl, O'.out⟩

set_option maxRecDepth 100000 in
set_option maxHeartbeats 2000000 in
theorem rsh_nz (s p S : ByteArray) (w : World) (hs : s.size = 32) (hp : p.size = 32) (H : ∀ w, Calls Try.prog 19 #[.string s, .string p] w fun r w' => r = .returned (.string S) ∧ Below w.heap.size w w') (hc : (S.toList == z32S.toList) = false) :
    Calls Try.prog 9 #[.string s, .string p] w fun r w' => r = .returned (.tuple #[.string S, .int .i64 0]) ∧ Below w.heap.size w w' := by
  have n1 : ((s.size : Int) != 32) = false := by simp [hs]
  have n2 : ((p.size : Int) != 32) = false := by simp [hp]
  clear hs hp
  have H1 := hide H
  have Z1 := hide mk32
  have Z2 := hide cv32
  clear H
  generalize z32S = z at *
  go_enter Try.func9, Try.ntmps9
  go_wp2_with fail
  refine (H1.out _).mono ?_
  rintro _ w1 ⟨rfl, O⟩
  have m1 := Z1.out w1
  have m2 := Z2.out w1
  have O' := hide (O.trans ((new_below w1 (.cells #[Value.int IntKind.u8 0, Value.int IntKind.u8 0, Value.int IntKind.u8 0, Value.int IntKind.u8 0, Value.int IntKind.u8 0, Value.int IntKind.u8 0, Value.int IntKind.u8 0, Value.int IntKind.u8 0, Value.int IntKind.u8 0, Value.int IntKind.u8 0, Value.int IntKind.u8 0, Value.int IntKind.u8 0, Value.int IntKind.u8 0, Value.int IntKind.u8 0, Value.int IntKind.u8 0, Value.int IntKind.u8 0, Value.int IntKind.u8 0, Value.int IntKind.u8 0, Value.int IntKind.u8 0, Value.int IntKind.u8 0, Value.int IntKind.u8 0, Value.int IntKind.u8 0, Value.int IntKind.u8 0, Value.int IntKind.u8 0, Value.int IntKind.u8 0, Value.int IntKind.u8 0, Value.int IntKind.u8 0, Value.int IntKind.u8 0, Value.int IntKind.u8 0, Value.int IntKind.u8 0, Value.int IntKind.u8 0, Value.int IntKind.u8 0] 5)).mono O.size))
  clear Z1 Z2 H1
  go_wp2_with fail
  exact bodyPost_ret (v := .tuple #[.string S, .int .i64 0]) (by simp [results, Try.results9, go_sem]) rfl ⟨rfl, O'.out⟩

theorem rsh_any (s p : ByteArray) (w : World) (V : Int) (hs : s.size = 32) (hp : p.size = 32) (hV : shV (clS s) (val (mkS p) % Pm) = V) :
    Calls Try.prog 9 #[.string s, .string p] w fun r w' => r = .returned (.tuple #[.string (sS V), .int .i64 (sC V)]) ∧ Below w.heap.size w w' := by
  have hb : 0 ≤ V ∧ V < Pm := hV ▸ shV_bd _ _
  have L := fun w => rlad_leb s p w V hs hp hV
  by_cases h : V = 0
  · have h1 := rsh_z s p _ w hs hp L (by rw [h, leb_z]; simp)
    unfold sS sC
    rwa [if_pos h, if_pos h]
  · have h1 := rsh_nz s p _ w hs hp L (leb_nz hb h)
    unfold sS sC
    rwa [if_neg h, if_neg h]

set_option maxHeartbeats 400000 in
theorem rsh_no1 (s p : ByteArray) (w : World) (hs : s.size ≠ 32) :
    Calls Try.prog 9 #[.string s, .string p] w fun r w' => r = .returned (.tuple #[.string ⟨#[]⟩, .int .i64 2]) ∧ Below w.heap.size w w' := by
  have n0 : ((s.size : Int) != 32) = true := by simp; omega
  go_enter Try.func9, Try.ntmps9
  go_wp2
  exact bodyPost_ret (v := .tuple #[.string ⟨#[]⟩, .int .i64 2]) (by simp [results, Try.results9, go_sem]) rfl ⟨rfl, Below.refl _ _⟩
set_option maxHeartbeats 400000 in
theorem rsh_no2 (s p : ByteArray) (w : World) (hs : s.size = 32) (hp : p.size ≠ 32) :
    Calls Try.prog 9 #[.string s, .string p] w fun r w' => r = .returned (.tuple #[.string ⟨#[]⟩, .int .i64 2]) ∧ Below w.heap.size w w' := by
  have n1 : ((s.size : Int) != 32) = false := by simp [hs]
  clear hs
  have n0 : ((p.size : Int) != 32) = true := by simp; omega
  go_enter Try.func9, Try.ntmps9
  go_wp2
  exact bodyPost_ret (v := .tuple #[.string ⟨#[]⟩, .int .i64 2]) (by simp [results, Try.results9, go_sem]) rfl ⟨rfl, Below.refl _ _⟩
set_option maxHeartbeats 400000 in
theorem rpub_no (s : ByteArray) (w : World) (hs : s.size ≠ 32) :
    Calls Try.prog 11 #[.string s] w fun r w' => r = .returned (.tuple #[.string ⟨#[]⟩, .int .i64 2]) ∧ Below w.heap.size w w' := by
  have n0 : ((s.size : Int) != 32) = true := by simp; omega
  go_enter Try.func11, Try.ntmps11
  go_wp2
  exact bodyPost_ret (v := .tuple #[.string ⟨#[]⟩, .int .i64 2]) (by simp [results, Try.results11, go_sem]) rfl ⟨rfl, Below.refl _ _⟩

theorem bc32 (w : World) : BC (w.alloc (.cells #[Value.int IntKind.u8 0, Value.int IntKind.u8 0, Value.int IntKind.u8 0, Value.int IntKind.u8 0, Value.int IntKind.u8 0, Value.int IntKind.u8 0, Value.int IntKind.u8 0, Value.int IntKind.u8 0, Value.int IntKind.u8 0, Value.int IntKind.u8 0, Value.int IntKind.u8 0, Value.int IntKind.u8 0, Value.int IntKind.u8 0, Value.int IntKind.u8 0, Value.int IntKind.u8 0, Value.int IntKind.u8 0, Value.int IntKind.u8 0, Value.int IntKind.u8 0, Value.int IntKind.u8 0, Value.int IntKind.u8 0, Value.int IntKind.u8 0, Value.int IntKind.u8 0, Value.int IntKind.u8 0, Value.int IntKind.u8 0, Value.int IntKind.u8 0, Value.int IntKind.u8 0, Value.int IntKind.u8 0, Value.int IntKind.u8 0, Value.int IntKind.u8 0, Value.int IntKind.u8 0, Value.int IntKind.u8 0, Value.int IntKind.u8 0] 5)) w.heap.size (fun _ => 0) 32 where
  lt := by simp
  c := fun i hi => by
    rw [cell_of_row _ _ _ _ _ _ (heap_alloc_new w _)]
    have h : ∀ j : Fin 32, (#[Value.int IntKind.u8 0, Value.int IntKind.u8 0, Value.int IntKind.u8 0, Value.int IntKind.u8 0, Value.int IntKind.u8 0, Value.int IntKind.u8 0, Value.int IntKind.u8 0, Value.int IntKind.u8 0, Value.int IntKind.u8 0, Value.int IntKind.u8 0, Value.int IntKind.u8 0, Value.int IntKind.u8 0, Value.int IntKind.u8 0, Value.int IntKind.u8 0, Value.int IntKind.u8 0, Value.int IntKind.u8 0, Value.int IntKind.u8 0, Value.int IntKind.u8 0, Value.int IntKind.u8 0, Value.int IntKind.u8 0, Value.int IntKind.u8 0, Value.int IntKind.u8 0, Value.int IntKind.u8 0, Value.int IntKind.u8 0, Value.int IntKind.u8 0, Value.int IntKind.u8 0, Value.int IntKind.u8 0, Value.int IntKind.u8 0, Value.int IntKind.u8 0, Value.int IntKind.u8 0, Value.int IntKind.u8 0, Value.int IntKind.u8 0] : Array Value)[j.val]? = some (.int .u8 0) := fun j => by
      rcases j with ⟨j, hj⟩
      have : j < 32 := hj
      rcases j with _|_|_|_|_|_|_|_|_|_|_|_|_|_|_|_|_|_|_|_|_|_|_|_|_|_|_|_|_|_|_|_|j
      all_goals first | rfl | omega
    exact h ⟨i, hi⟩
  fz := fun i hi => by
    unfold World.frozen?
    rw [heap_alloc_new w _]
    simp

theorem nine_bs : bs ((List.range 32).map (upd (fun _ => 0) 0 9)) = nineS := by decide +kernel

set_option maxRecDepth 100000 in
set_option maxHeartbeats 2000000 in
theorem rpub_gen (s S : ByteArray) (w : World) (hs : s.size = 32) (H : ∀ w, Calls Try.prog 19 #[.string s, .string nineS] w fun r w' => r = .returned (.string S) ∧ Below w.heap.size w w') :
    Calls Try.prog 11 #[.string s] w fun r w' => r = .returned (.tuple #[.string S, .int .i64 0]) ∧ Below w.heap.size w w' := by
  have n1 : ((s.size : Int) != 32) = false := by simp [hs]
  clear hs
  have H1 := hide H
  clear H
  have m1 := mk32 w
  have B := bc32 w
  have c0 := B.c 0 (by omega)
  have f0 := B.fz 0 (by omega)
  have gl := B.lt
  have hbk := conv_back (B.set (k := 0) (by omega) 9) 32 (fun i _ => by unfold upd; by_cases h : i = 0 <;> simp [h])
  rw [nine_bs] at hbk
  have O := hide ((new_below w (.cells #[Value.int IntKind.u8 0, Value.int IntKind.u8 0, Value.int IntKind.u8 0, Value.int IntKind.u8 0, Value.int IntKind.u8 0, Value.int IntKind.u8 0, Value.int IntKind.u8 0, Value.int IntKind.u8 0, Value.int IntKind.u8 0, Value.int IntKind.u8 0, Value.int IntKind.u8 0, Value.int IntKind.u8 0, Value.int IntKind.u8 0, Value.int IntKind.u8 0, Value.int IntKind.u8 0, Value.int IntKind.u8 0, Value.int IntKind.u8 0, Value.int IntKind.u8 0, Value.int IntKind.u8 0, Value.int IntKind.u8 0, Value.int IntKind.u8 0, Value.int IntKind.u8 0, Value.int IntKind.u8 0, Value.int IntKind.u8 0, Value.int IntKind.u8 0, Value.int IntKind.u8 0, Value.int IntKind.u8 0, Value.int IntKind.u8 0, Value.int IntKind.u8 0, Value.int IntKind.u8 0, Value.int IntKind.u8 0, Value.int IntKind.u8 0] 5)).setCell (p := ⟨w.heap.size, 0, none⟩) (Nat.le_refl _) (.int .u8 9))
  clear B
  generalize nineS = N at *
  generalize w.alloc (.cells #[Value.int IntKind.u8 0, Value.int IntKind.u8 0, Value.int IntKind.u8 0, Value.int IntKind.u8 0, Value.int IntKind.u8 0, Value.int IntKind.u8 0, Value.int IntKind.u8 0, Value.int IntKind.u8 0, Value.int IntKind.u8 0, Value.int IntKind.u8 0, Value.int IntKind.u8 0, Value.int IntKind.u8 0, Value.int IntKind.u8 0, Value.int IntKind.u8 0, Value.int IntKind.u8 0, Value.int IntKind.u8 0, Value.int IntKind.u8 0, Value.int IntKind.u8 0, Value.int IntKind.u8 0, Value.int IntKind.u8 0, Value.int IntKind.u8 0, Value.int IntKind.u8 0, Value.int IntKind.u8 0, Value.int IntKind.u8 0, Value.int IntKind.u8 0, Value.int IntKind.u8 0, Value.int IntKind.u8 0, Value.int IntKind.u8 0, Value.int IntKind.u8 0, Value.int IntKind.u8 0, Value.int IntKind.u8 0, Value.int IntKind.u8 0] 5) = W1 at *
  go_enter Try.func11, Try.ntmps11
  go_wp2_with fail
  refine (H1.out _).mono ?_
  rintro _ w3 ⟨rfl, hb⟩
  have O2 := O.out.trans (hb.mono O.out.size)
  clear hb H1
  go_wp2_with fail
  exact bodyPost_ret (v := .tuple #[.string S, .int .i64 0]) (by simp [results, Try.results11, go_sem]) rfl ⟨rfl, O2⟩

theorem rpub_any (s : ByteArray) (w : World) (hs : s.size = 32) :
    Calls Try.prog 11 #[.string s] w fun r w' => r = .returned (.tuple #[.string (lebytes (shV (clS s) 9)), .int .i64 0]) ∧ Below w.heap.size w w' :=
  rpub_gen s _ w hs fun w => rlad_leb s nineS w _ hs nineS_size (by rw [v9])

set_option maxRecDepth 100000 in
set_option maxHeartbeats 2000000 in
theorem msh_gen (s p A C : ByteArray) (e g : Int) (w : World) (l1 : s.size ≤ 4096) (l2 : p.size ≤ 4096)
    (A1 : ∀ w, Calls Try.prog 8 #[.string s, .string p] w fun r w' => r = .returned (.tuple #[.string A, .int .i64 e]) ∧ Below w.heap.size w w')
    (A2 : ∀ w, Calls Try.prog 9 #[.string s, .string p] w fun r w' => r = .returned (.tuple #[.string A, .int .i64 e]) ∧ Below w.heap.size w w')
    (A3 : ∀ w, Calls Try.prog 10 #[.string s] w fun r w' => r = .returned (.tuple #[.string C, .int .i64 g]) ∧ Below w.heap.size w w')
    (A4 : ∀ w, Calls Try.prog 11 #[.string s] w fun r w' => r = .returned (.tuple #[.string C, .int .i64 g]) ∧ Below w.heap.size w w') :
    Calls Try.prog 3 #[.string s, .string p] w fun r w' => r = .returned (.bool true) ∧ Below w.heap.size w w' := by
  have k1 : decide ((s.size : Int) > 4096) = false := by simp; omega
  have k2 : decide ((p.size : Int) > 4096) = false := by simp; omega
  have H1 := hide A1
  have H2 := hide A2
  have H3 := hide A3
  have H4 := hide A4
  clear A1 A2 A3 A4
  go_enter Try.func3, Try.ntmps3
  go_wp2_with fail
  refine (H1.out _).mono ?_
  rintro _ w1 ⟨rfl, O⟩
  go_wp2_with fail
  refine (H2.out _).mono ?_
  rintro _ w2 ⟨rfl, hb⟩
  replace O := O.trans (hb.mono O.size)
  clear hb
  go_wp2_with fail
  refine (H3.out _).mono ?_
  rintro _ w3 ⟨rfl, hb⟩
  replace O := O.trans (hb.mono O.size)
  clear hb
  go_wp2_with fail
  refine (H4.out _).mono ?_
  rintro _ w4 ⟨rfl, hb⟩
  replace O := O.trans (hb.mono O.size)
  clear hb
  clear H1 H2 H3 H4
  have hcc : (A.toList == A.toList) = true := by simp
  have hcd : (C.toList == C.toList) = true := by simp
  go_wp2_with fail
  refine (alive_any _).mono ?_
  rintro _ w5 ⟨rfl, hb⟩
  replace O := O.trans (hb.mono O.size)
  clear hb
  go_wp2
  go_ret
  exact ⟨rfl, O⟩

set_option maxHeartbeats 400000 in
theorem msh_far (s p : ByteArray) (w : World) (h : 4096 < s.size ∨ 4096 < p.size) :
    Calls Try.prog 3 #[.string s, .string p] w fun r w' => r = .returned (.bool true) ∧ Below w.heap.size w w' := by
  by_cases h1 : 4096 < s.size
  · clear h
    go_enter Try.func3, Try.ntmps3
    go_wp2_with fail
    refine (alive_any _).mono ?_
    rintro _ w5 ⟨rfl, O⟩
    go_wp2
    go_ret
    exact ⟨rfl, O⟩
  · have h2 : 4096 < p.size := by omega
    have h3 : s.size ≤ 4096 := by omega
    clear h h1
    go_enter Try.func3, Try.ntmps3
    go_wp2_with fail
    refine (alive_any _).mono ?_
    rintro _ w5 ⟨rfl, O⟩
    go_wp2
    go_ret
    exact ⟨rfl, O⟩

theorem msh_any (s p : ByteArray) (w : World) :
    Calls Try.prog 3 #[.string s, .string p] w fun r w' => r = .returned (.bool true) ∧ Below w.heap.size w w' := by
  by_cases h : 4096 < s.size ∨ 4096 < p.size
  · exact msh_far s p w h
  · by_cases hs : s.size = 32
    · by_cases hp : p.size = 32
      · exact msh_gen s p _ _ _ _ w (by omega) (by omega) (fun w => sh_any s p w _ hs hp rfl) (fun w => rsh_any s p w _ hs hp rfl) (pub_tells s hs) (fun w => rpub_any s w hs)
      · exact msh_gen s p _ _ _ _ w (by omega) (by omega) (fun w => shared_no2 s p w hs hp) (fun w => rsh_no2 s p w hs hp) (pub_tells s hs) (fun w => rpub_any s w hs)
    · exact msh_gen s p _ _ _ _ w (by omega) (by omega) (fun w => shared_no1 s p w hs) (fun w => rsh_no1 s p w hs) (fun w => pub_no s w hs) (fun w => rpub_no s w hs)
end

theorem sharOwn : ownKnob Try.prog.godebug = none := by kernel_rfl

theorem sharWalk (s t : ByteArray) (w : World) :
    Calls Try.prog 3 #[.string s, .string t] w fun e w' => e = .returned (.bool true) ∧ Below w.heap.size w w' := by
  exact msh_any s t w

set_option maxRecDepth 100000 in
theorem sharLifted (os : Os) (started : os.Started) (H : Type) (enc : TypeId × Value → H) :
    ReturnsInHanded {} Try.checked os 3 .any (Rows.montSharedSpec.pre6 enc Try.prog Try.f3 Rows.montSharedRow.domain false) (Rows.montSharedSpec.post enc Try.prog Try.f3 false true false false) := by
  refine returnsInHanded_of_change (C := Try.checked) sharOwn started (by kernel_rfl) Try.func3
    (ChangeSpec.witness6 (enc := enc) (C := Try.checked) false ⟨#[], #[.string ByteArray.empty, .string ByteArray.empty], []⟩ 8 (by kernel_rfl) (by kernel_rfl) (by kernel_rfl) (by kernel_rfl)) ?_
  intro W base args ds gs before hval0 hW hcnd _
  have hval : ∀ (j : Nat) t v, Try.f3.params[j]? = some t → args[j]? = some v → Value.okWide Try.prog W .any base t v := hval0
  have hW' := hW
  obtain ⟨p, q, hA0, hV, rfl, hfz, hnd⟩ := hW
  have hA : DataW.TrodAll enc Try.prog W 0 (fun _ => true) true Try.f3.params.toList args.toList ds p := hA0
  rw [Try.params3] at hA hval
  obtain ⟨v0, vs0, d0, ds0, p0, q0, hargs, rfl, rfl, h0, r0⟩ := trodAll_cons hA
  obtain ⟨v1, vs1, d1, ds1, p1, q1, rfl, rfl, rfl, h1, r1⟩ := trodAll_cons r0
  obtain ⟨rfl, rfl, rfl⟩ := trodAll_nil r1
  obtain rfl : args = #[v0, v1] := by cases args; simp_all
  obtain ⟨rfl, rfl⟩ := trodVars_none hV
  obtain ⟨a0, rfl, rfl, rfl, w0⟩ := open_string Try.underlying9 (hval 0 9 v0 rfl rfl) h0
  obtain ⟨a1, rfl, rfl, rfl, w1⟩ := open_string Try.underlying9 (hval 1 9 v1 rfl rfl) h1
  clear hA0 hval0
  simp only [List.append_nil] at hW'
  refine (sharWalk a0 a1 W).mono fun e W' ⟨he, hg⟩ => ?_
  subst he
  exact ⟨_, rfl, _, _, _, [], [], [], hW', trodAll_cons_mk (shut_bool Try.underlying4 _) trodAll_mk0, trodAll_cons_mk (shut_string Try.underlying9 w0) (trodAll_cons_mk (shut_string Try.underlying9 w1) trodAll_mk0), rfl, hg.frame _, fun h => by cases h⟩

theorem montShared_holds : Rows.MontSharedSaid :=
  OpenClaim.holds_of_wide 3 Try.f3 rfl rfl rfl rfl rfl rfl rfl ⟨rfl, rfl, rfl, rfl, rfl⟩ rfl rfl rfl rfl rfl (by kernel_rfl) Try.func3 (by kernel_rfl)
    (of_decide_eq_true (by kernel_rfl)) (by unfold Func.isWrapper; rw [if_neg (by decide +kernel)]; exact ⟨rfl, rfl⟩)
    (fun os started H enc _ => sharLifted os started H enc)

#print axioms montShared_holds
end Go.Proofs.Ytiiniodidkfbiaa
