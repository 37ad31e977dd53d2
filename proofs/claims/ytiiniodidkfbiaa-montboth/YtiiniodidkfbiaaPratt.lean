/- 2^255 - 19 is a prime, and each number modulo it but 0 is a power of 2. -/
import Derived.Test.YtiiniodidkfbiaaGen
namespace Go.Proofs.Ytiiniodidkfbiaa

theorem gen_by {n g : Nat} (f : Nat) (l : List Nat) (hn : 1 < n) (hl : ∀ x ∈ l, IsP x) (hN : prod l = n - 1) (hf : n - 1 < 2 ^ f) (hg : pmf n f g (n - 1) = 1) (ho : (l.all fun x => !Nat.beq (pmf n f g ((n - 1) / x)) 1) = true) : Gen n g := by
  refine gen_of hn l hl hN (by rw [← pmf_eq n f g _ hf]; exact hg) fun x hx he => ?_
  have h := List.all_eq_true.1 ho x hx
  rw [pmf_eq n f g _ (Nat.lt_of_le_of_lt (Nat.div_le_self _ _) hf), he] at h
  cases h

theorem isP2 : IsP 2 := ⟨by decide, fun d h => by
  have := Nat.le_of_dvd (by decide) h
  have : d ≠ 0 := fun e => by subst e; have := Nat.eq_zero_of_zero_dvd h; omega
  omega⟩
theorem all_nil {Q : Nat → Prop} : ∀ x ∈ ([] : List Nat), Q x := fun _ h => by cases h
theorem all_cons {Q : Nat → Prop} {a : Nat} {l : List Nat} (h : Q a) (hl : ∀ x ∈ l, Q x) : ∀ x ∈ a :: l, Q x := fun x hx => by
  rcases List.mem_cons.1 hx with e | e
  · rw [e]; exact h
  · exact hl x e

theorem isP_0 : IsP 3 := Gen.isP (g := 2) (gen_by 2 [2] (by decide) (all_cons isP2 all_nil) (by decide +kernel) (by decide +kernel) (by decide +kernel) (by decide +kernel))
theorem isP_1 : IsP 17 := Gen.isP (g := 3) (gen_by 5 [2, 2, 2, 2] (by decide) (all_cons isP2 (all_cons isP2 (all_cons isP2 (all_cons isP2 all_nil)))) (by decide +kernel) (by decide +kernel) (by decide +kernel) (by decide +kernel))
theorem isP_2 : IsP 7 := Gen.isP (g := 3) (gen_by 3 [2, 3] (by decide) (all_cons isP2 (all_cons isP_0 all_nil)) (by decide +kernel) (by decide +kernel) (by decide +kernel) (by decide +kernel))
theorem isP_3 : IsP 239 := Gen.isP (g := 7) (gen_by 8 [2, 7, 17] (by decide) (all_cons isP2 (all_cons isP_2 (all_cons isP_1 all_nil))) (by decide +kernel) (by decide +kernel) (by decide +kernel) (by decide +kernel))
theorem isP_4 : IsP 479 := Gen.isP (g := 13) (gen_by 9 [2, 239] (by decide) (all_cons isP2 (all_cons isP_3 all_nil)) (by decide +kernel) (by decide +kernel) (by decide +kernel) (by decide +kernel))
theorem isP_5 : IsP 32573 := Gen.isP (g := 2) (gen_by 15 [2, 2, 17, 479] (by decide) (all_cons isP2 (all_cons isP2 (all_cons isP_1 (all_cons isP_4 all_nil)))) (by decide +kernel) (by decide +kernel) (by decide +kernel) (by decide +kernel))
theorem isP_6 : IsP 65147 := Gen.isP (g := 2) (gen_by 16 [2, 32573] (by decide) (all_cons isP2 (all_cons isP_5 all_nil)) (by decide +kernel) (by decide +kernel) (by decide +kernel) (by decide +kernel))
theorem isP_7 : IsP 5 := Gen.isP (g := 2) (gen_by 3 [2, 2] (by decide) (all_cons isP2 (all_cons isP2 all_nil)) (by decide +kernel) (by decide +kernel) (by decide +kernel) (by decide +kernel))
theorem isP_8 : IsP 11 := Gen.isP (g := 2) (gen_by 4 [2, 5] (by decide) (all_cons isP2 (all_cons isP_7 all_nil)) (by decide +kernel) (by decide +kernel) (by decide +kernel) (by decide +kernel))
theorem isP_9 : IsP 353 := Gen.isP (g := 3) (gen_by 9 [2, 2, 2, 2, 2, 11] (by decide) (all_cons isP2 (all_cons isP2 (all_cons isP2 (all_cons isP2 (all_cons isP2 (all_cons isP_8 all_nil)))))) (by decide +kernel) (by decide +kernel) (by decide +kernel) (by decide +kernel))
theorem isP_10 : IsP 29 := Gen.isP (g := 2) (gen_by 5 [2, 2, 7] (by decide) (all_cons isP2 (all_cons isP2 (all_cons isP_2 all_nil))) (by decide +kernel) (by decide +kernel) (by decide +kernel) (by decide +kernel))
theorem isP_11 : IsP 59 := Gen.isP (g := 2) (gen_by 6 [2, 29] (by decide) (all_cons isP2 (all_cons isP_10 all_nil)) (by decide +kernel) (by decide +kernel) (by decide +kernel) (by decide +kernel))
theorem isP_12 : IsP 487 := Gen.isP (g := 3) (gen_by 9 [2, 3, 3, 3, 3, 3] (by decide) (all_cons isP2 (all_cons isP_0 (all_cons isP_0 (all_cons isP_0 (all_cons isP_0 (all_cons isP_0 all_nil)))))) (by decide +kernel) (by decide +kernel) (by decide +kernel) (by decide +kernel))
theorem isP_13 : IsP 57467 := Gen.isP (g := 2) (gen_by 16 [2, 59, 487] (by decide) (all_cons isP2 (all_cons isP_11 (all_cons isP_12 all_nil))) (by decide +kernel) (by decide +kernel) (by decide +kernel) (by decide +kernel))
theorem isP_14 : IsP 13 := Gen.isP (g := 2) (gen_by 4 [2, 2, 3] (by decide) (all_cons isP2 (all_cons isP2 (all_cons isP_0 all_nil))) (by decide +kernel) (by decide +kernel) (by decide +kernel) (by decide +kernel))
theorem isP_15 : IsP 131 := Gen.isP (g := 2) (gen_by 8 [2, 5, 13] (by decide) (all_cons isP2 (all_cons isP_7 (all_cons isP_14 all_nil))) (by decide +kernel) (by decide +kernel) (by decide +kernel) (by decide +kernel))
theorem isP_16 : IsP 132049 := Gen.isP (g := 26) (gen_by 18 [2, 2, 2, 2, 3, 3, 7, 131] (by decide) (all_cons isP2 (all_cons isP2 (all_cons isP2 (all_cons isP2 (all_cons isP_0 (all_cons isP_0 (all_cons isP_2 (all_cons isP_15 all_nil)))))))) (by decide +kernel) (by decide +kernel) (by decide +kernel) (by decide +kernel))
theorem isP_17 : IsP 43 := Gen.isP (g := 3) (gen_by 6 [2, 3, 7] (by decide) (all_cons isP2 (all_cons isP_0 (all_cons isP_2 all_nil))) (by decide +kernel) (by decide +kernel) (by decide +kernel) (by decide +kernel))
theorem isP_18 : IsP 23 := Gen.isP (g := 5) (gen_by 5 [2, 11] (by decide) (all_cons isP2 (all_cons isP_8 all_nil)) (by decide +kernel) (by decide +kernel) (by decide +kernel) (by decide +kernel))
theorem isP_19 : IsP 3727 := Gen.isP (g := 3) (gen_by 12 [2, 3, 3, 3, 3, 23] (by decide) (all_cons isP2 (all_cons isP_0 (all_cons isP_0 (all_cons isP_0 (all_cons isP_0 (all_cons isP_18 all_nil)))))) (by decide +kernel) (by decide +kernel) (by decide +kernel) (by decide +kernel))
theorem isP_20 : IsP 1923133 := Gen.isP (g := 2) (gen_by 21 [2, 2, 3, 43, 3727] (by decide) (all_cons isP2 (all_cons isP2 (all_cons isP_0 (all_cons isP_17 (all_cons isP_19 all_nil))))) (by decide +kernel) (by decide +kernel) (by decide +kernel) (by decide +kernel))
theorem isP_21 : IsP 31 := Gen.isP (g := 3) (gen_by 5 [2, 3, 5] (by decide) (all_cons isP2 (all_cons isP_0 (all_cons isP_7 all_nil))) (by decide +kernel) (by decide +kernel) (by decide +kernel) (by decide +kernel))
theorem isP_22 : IsP 53 := Gen.isP (g := 2) (gen_by 6 [2, 2, 13] (by decide) (all_cons isP2 (all_cons isP2 (all_cons isP_14 all_nil))) (by decide +kernel) (by decide +kernel) (by decide +kernel) (by decide +kernel))
theorem isP_23 : IsP 107 := Gen.isP (g := 2) (gen_by 7 [2, 53] (by decide) (all_cons isP2 (all_cons isP_22 all_nil)) (by decide +kernel) (by decide +kernel) (by decide +kernel) (by decide +kernel))
theorem isP_24 : IsP 37 := Gen.isP (g := 2) (gen_by 6 [2, 2, 3, 3] (by decide) (all_cons isP2 (all_cons isP2 (all_cons isP_0 (all_cons isP_0 all_nil)))) (by decide +kernel) (by decide +kernel) (by decide +kernel) (by decide +kernel))
theorem isP_25 : IsP 223 := Gen.isP (g := 3) (gen_by 8 [2, 3, 37] (by decide) (all_cons isP2 (all_cons isP_0 (all_cons isP_24 all_nil))) (by decide +kernel) (by decide +kernel) (by decide +kernel) (by decide +kernel))
theorem isP_26 : IsP 173 := Gen.isP (g := 2) (gen_by 8 [2, 2, 43] (by decide) (all_cons isP2 (all_cons isP2 (all_cons isP_17 all_nil))) (by decide +kernel) (by decide +kernel) (by decide +kernel) (by decide +kernel))
theorem isP_27 : IsP 4153 := Gen.isP (g := 5) (gen_by 13 [2, 2, 2, 3, 173] (by decide) (all_cons isP2 (all_cons isP2 (all_cons isP2 (all_cons isP_0 (all_cons isP_26 all_nil))))) (by decide +kernel) (by decide +kernel) (by decide +kernel) (by decide +kernel))
theorem isP_28 : IsP 41 := Gen.isP (g := 6) (gen_by 6 [2, 2, 2, 5] (by decide) (all_cons isP2 (all_cons isP2 (all_cons isP2 (all_cons isP_7 all_nil)))) (by decide +kernel) (by decide +kernel) (by decide +kernel) (by decide +kernel))
theorem isP_29 : IsP 1723 := Gen.isP (g := 3) (gen_by 11 [2, 3, 7, 41] (by decide) (all_cons isP2 (all_cons isP_0 (all_cons isP_2 (all_cons isP_28 all_nil)))) (by decide +kernel) (by decide +kernel) (by decide +kernel) (by decide +kernel))
theorem isP_30 : IsP 430751 := Gen.isP (g := 17) (gen_by 19 [2, 5, 5, 5, 1723] (by decide) (all_cons isP2 (all_cons isP_7 (all_cons isP_7 (all_cons isP_7 (all_cons isP_29 all_nil))))) (by decide +kernel) (by decide +kernel) (by decide +kernel) (by decide +kernel))
theorem isP_31 : IsP 31757755568855353 := Gen.isP (g := 10) (gen_by 55 [2, 2, 2, 3, 31, 107, 223, 4153, 430751] (by decide) (all_cons isP2 (all_cons isP2 (all_cons isP2 (all_cons isP_0 (all_cons isP_21 (all_cons isP_23 (all_cons isP_25 (all_cons isP_27 (all_cons isP_30 all_nil))))))))) (by decide +kernel) (by decide +kernel) (by decide +kernel) (by decide +kernel))
theorem isP_32 : IsP 19 := Gen.isP (g := 2) (gen_by 5 [2, 3, 3] (by decide) (all_cons isP2 (all_cons isP_0 (all_cons isP_0 all_nil))) (by decide +kernel) (by decide +kernel) (by decide +kernel) (by decide +kernel))
theorem isP_33 : IsP 83 := Gen.isP (g := 2) (gen_by 7 [2, 41] (by decide) (all_cons isP2 (all_cons isP_28 all_nil)) (by decide +kernel) (by decide +kernel) (by decide +kernel) (by decide +kernel))
theorem isP_34 : IsP 9463 := Gen.isP (g := 3) (gen_by 14 [2, 3, 19, 83] (by decide) (all_cons isP2 (all_cons isP_0 (all_cons isP_32 (all_cons isP_33 all_nil)))) (by decide +kernel) (by decide +kernel) (by decide +kernel) (by decide +kernel))
theorem isP_35 : IsP 37853 := Gen.isP (g := 2) (gen_by 16 [2, 2, 9463] (by decide) (all_cons isP2 (all_cons isP2 (all_cons isP_34 all_nil))) (by decide +kernel) (by decide +kernel) (by decide +kernel) (by decide +kernel))
theorem isP_36 : IsP 75707 := Gen.isP (g := 2) (gen_by 17 [2, 37853] (by decide) (all_cons isP2 (all_cons isP_35 all_nil)) (by decide +kernel) (by decide +kernel) (by decide +kernel) (by decide +kernel))
theorem isP_37 : IsP 47 := Gen.isP (g := 5) (gen_by 6 [2, 23] (by decide) (all_cons isP2 (all_cons isP_18 all_nil)) (by decide +kernel) (by decide +kernel) (by decide +kernel) (by decide +kernel))
theorem isP_38 : IsP 127 := Gen.isP (g := 3) (gen_by 7 [2, 3, 3, 7] (by decide) (all_cons isP2 (all_cons isP_0 (all_cons isP_0 (all_cons isP_2 all_nil)))) (by decide +kernel) (by decide +kernel) (by decide +kernel) (by decide +kernel))
theorem isP_39 : IsP 103 := Gen.isP (g := 5) (gen_by 7 [2, 3, 17] (by decide) (all_cons isP2 (all_cons isP_0 (all_cons isP_1 all_nil))) (by decide +kernel) (by decide +kernel) (by decide +kernel) (by decide +kernel))
theorem isP_40 : IsP 991 := Gen.isP (g := 6) (gen_by 10 [2, 3, 3, 5, 11] (by decide) (all_cons isP2 (all_cons isP_0 (all_cons isP_0 (all_cons isP_7 (all_cons isP_8 all_nil))))) (by decide +kernel) (by decide +kernel) (by decide +kernel) (by decide +kernel))
theorem isP_41 : IsP 8574133 := Gen.isP (g := 2) (gen_by 24 [2, 2, 3, 7, 103, 991] (by decide) (all_cons isP2 (all_cons isP2 (all_cons isP_0 (all_cons isP_2 (all_cons isP_39 (all_cons isP_40 all_nil)))))) (by decide +kernel) (by decide +kernel) (by decide +kernel) (by decide +kernel))
theorem isP_42 : IsP 1919519569386763 := Gen.isP (g := 2) (gen_by 51 [2, 3, 7, 19, 47, 47, 127, 8574133] (by decide) (all_cons isP2 (all_cons isP_0 (all_cons isP_2 (all_cons isP_32 (all_cons isP_37 (all_cons isP_37 (all_cons isP_38 (all_cons isP_41 all_nil)))))))) (by decide +kernel) (by decide +kernel) (by decide +kernel) (by decide +kernel))
theorem isP_43 : IsP 2437 := Gen.isP (g := 2) (gen_by 12 [2, 2, 3, 7, 29] (by decide) (all_cons isP2 (all_cons isP2 (all_cons isP_0 (all_cons isP_2 (all_cons isP_10 all_nil))))) (by decide +kernel) (by decide +kernel) (by decide +kernel) (by decide +kernel))
theorem isP_44 : IsP 97 := Gen.isP (g := 5) (gen_by 7 [2, 2, 2, 2, 2, 3] (by decide) (all_cons isP2 (all_cons isP2 (all_cons isP2 (all_cons isP2 (all_cons isP2 (all_cons isP_0 all_nil)))))) (by decide +kernel) (by decide +kernel) (by decide +kernel) (by decide +kernel))
theorem isP_45 : IsP 419 := Gen.isP (g := 2) (gen_by 9 [2, 11, 19] (by decide) (all_cons isP2 (all_cons isP_8 (all_cons isP_32 all_nil))) (by decide +kernel) (by decide +kernel) (by decide +kernel) (by decide +kernel))
theorem isP_46 : IsP 569003 := Gen.isP (g := 2) (gen_by 20 [2, 7, 97, 419] (by decide) (all_cons isP2 (all_cons isP_2 (all_cons isP_44 (all_cons isP_45 all_nil)))) (by decide +kernel) (by decide +kernel) (by decide +kernel) (by decide +kernel))
theorem isP_47 : IsP 2773320623 := Gen.isP (g := 5) (gen_by 32 [2, 2437, 569003] (by decide) (all_cons isP2 (all_cons isP_43 (all_cons isP_46 all_nil))) (by decide +kernel) (by decide +kernel) (by decide +kernel) (by decide +kernel))
theorem isP_48 : IsP 72106336199 := Gen.isP (g := 7) (gen_by 37 [2, 13, 2773320623] (by decide) (all_cons isP2 (all_cons isP_14 (all_cons isP_47 all_nil))) (by decide +kernel) (by decide +kernel) (by decide +kernel) (by decide +kernel))
theorem isP_49 : IsP 75445702479781427272750846543864801 := Gen.isP (g := 7) (gen_by 116 [2, 2, 2, 2, 2, 3, 3, 5, 5, 75707, 1919519569386763, 72106336199] (by decide) (all_cons isP2 (all_cons isP2 (all_cons isP2 (all_cons isP2 (all_cons isP2 (all_cons isP_0 (all_cons isP_0 (all_cons isP_7 (all_cons isP_7 (all_cons isP_36 (all_cons isP_42 (all_cons isP_48 all_nil)))))))))))) (by decide +kernel) (by decide +kernel) (by decide +kernel) (by decide +kernel))
theorem isP_50 : IsP 74058212732561358302231226437062788676166966415465897661863160754340907 := Gen.isP (g := 2) (gen_by 236 [2, 3, 353, 57467, 132049, 1923133, 31757755568855353, 75445702479781427272750846543864801] (by decide) (all_cons isP2 (all_cons isP_0 (all_cons isP_9 (all_cons isP_13 (all_cons isP_16 (all_cons isP_20 (all_cons isP_31 (all_cons isP_49 all_nil)))))))) (by decide +kernel) (by decide +kernel) (by decide +kernel) (by decide +kernel))
theorem genP : Gen 57896044618658097711785492504343953926634992332820282019728792003956564819949 2 := gen_by 255 [2, 2, 3, 65147, 74058212732561358302231226437062788676166966415465897661863160754340907] (by decide) (all_cons isP2 (all_cons isP2 (all_cons isP_0 (all_cons isP_6 (all_cons isP_50 all_nil))))) (by decide +kernel) (by decide +kernel) (by decide +kernel) (by decide +kernel)

end Go.Proofs.Ytiiniodidkfbiaa
