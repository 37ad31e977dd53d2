/- Part 15 of the walks and facts. -/
import Derived.Test.YtffimigpbcilbaaGreatDoorCpDef
import Derived.Test.YtffimigpbcilbaaGreatDoorCp14
set_option maxHeartbeats 16000000
set_option maxRecDepth 100000
set_option linter.unusedSimpArgs false
namespace Go.Proofs.YtffimigpbcilbaaGreatDoor
open Go.RowKit
section
variable {P : Program} {ops : Array Oper} {o o2 o3 : Oper} {a : Act} {w : World} {Q : Exit → Act → World → Prop} {S : World → Prop} {n fuel : Nat} {listed : Array Bool}
theorem hl_name (h : ∀ H : Nat → Array Bool → Act → World → Prop, (∀ f l a w, H f l a w → HL P ops Q S n f l a w) → (∀ f l a w, HL P ops Q S n f l a w → H f l a w) → H fuel listed a w) : HL P ops Q S n fuel listed a w := h _ (fun _ _ _ _ h => h) (fun _ _ _ _ h => h)
end
section
variable {a : Act} {w : World} {Q : Exit → Act → World → Prop}
end
theorem z31 : ∀ x ∈ List.replicate 31 (0 : Int), 0 ≤ x ∧ x < 256 := fun x hx => by
 rw [List.eq_of_mem_replicate hx]
 decide
theorem sb_z : SB (.cells (av 31 (w8 fun _ => 0)) 5) 31 (vs8 (List.replicate 31 0)) := by
 refine ⟨_, 5, (0, 0), rfl, by simp [vs8], by rw [av_size]; exact Nat.le_refl _, fun i hi => ?_, fun i _ => by simp⟩
 rw [vs8_length, List.length_replicate] at hi
 rw [av_get _ _ _ hi]
 unfold vs8 w8
 rw [List.getElem?_map, List.getElem?_replicate, if_pos hi]
 rfl
theorem sb_one (c : Int) : SB (.cells (av 1 (fun _ => .int .u8 c)) 5) 1 (vs8 [c]) := by
 refine ⟨_, 5, (0, 0), rfl, by simp [vs8], by rw [av_size]; exact Nat.le_refl _, fun i hi => ?_, fun i _ => by simp⟩
 obtain rfl : i = 0 := by rw [vs8_length] at hi; exact Nat.lt_one_iff.1 hi
 rw [av_get _ _ _ (by decide)]
 rfl
theorem c_key (c_ : Int) (h0 : 0 ≤ c_) (h1 : c_ < 256) (w : World) (hL : Laid w)  : Cs 19 #[.int .u8 c_] w (.string (keS c_)) := by
 go_enter Tryz.func19, Tryz.ntmps19
 have M := Mem.start hL
 refine sq <| wp_seq <| rgh M [] 6 fun u1 M => qV M 2 5 (.int .u8 c_) <| hl_name ?_
 intro H hA hB
 have s9 : ∀ (a : Act) (l : Array Bool) (x_3 x_6 : Value) (w0 : World), a = (fm ([.int .u8 c_, slt a 1, .string zb, x_3, .string (bs (List.replicate 31 0)), .int .u8 c_, x_6, .string (bs [c_]), .string ((bs (List.replicate 31 0)) ++ (bs [c_]))])) → l = #[true, true, true, true, true, true, false] → Mem ⟨w, []⟩ [] w0 → H 1 l a w0 := by
  intro a l  x_3 x_6 u0 ha hl M
  generalize slt a = v at ha
  subst ha hl
  refine hB _ _ _ _ <| qZ ?_
  refine rV 1 <| nT <| au_then <| wp_ret ?_
  exact bX (.string ((bs (List.replicate 31 0)) ++ (bs [c_]))) ⟨by rw [bs_app]; rfl, below_grown M.old⟩
 have s7 : ∀ (a : Act) (l : Array Bool) (g2 : Nat) (x_3 : Value) (w0 : World), a = (fm ([.int .u8 c_, slt a 1, .string zb, x_3, .string (bs (List.replicate 31 0)), .int .u8 c_, .slice (some ⟨g2, 0, none⟩) 1 1] ++ vr (slt a) 7 2)) → l = #[true, true, true, true, false, false, false] → Mem ⟨w, []⟩ [⟨g2, .cells (av 1 (ls [.int .u8 c_])) 5⟩] w0 → H 3 l a w0 := by
  intro a l g2 x_3 u0 ha hl M
  generalize slt a = v at ha
  subst ha hl
  refine hB _ _ _ _ <| qO 4 ?_
  refine pl_back M (want_no rfl) (some 7) rfl _ rfl 0 g2 1 1 (by kernel_rfl) _ rfl [c_] 1 (sb_one _) (by simp) (ker c_ h0 h1) <| nT ?_
  refine ⟨(M.drop (jK (.slnil))), ?_⟩
  refine qH (M.drop (jK (.slnil))) 5 8 (.string ((bs (List.replicate 31 0)) ++ (bs [c_]))) (fun w _ => (run_cat 9 9 _ _ rfl (bs (List.replicate 31 0)) (bs [c_]) (by kernel_rfl) (by kernel_rfl) (by rw [bs_size, bs_size, List.length_replicate]; exact (by decide : 31 + 1 ≤ 9223372036854775807))) w) ?_
  exact hA _ _ _ _ (s9 _ _ (x_3) (.slice (some ⟨g2, 0, none⟩) 1 1) _ (by kernel_rfl) (by kernel_rfl) (M.drop (jK (.slnil))))
 have s8 : ∀ (a : Act) (l : Array Bool) (g1 : Nat) (x_6 : Value) (w0 : World), a = (fm ([.int .u8 c_, slt a 1, .string zb, .slice (some ⟨g1, 0, none⟩) 31 31, slt a 4, .int .u8 c_, x_6, .string (bs [c_]), slt a 8])) → l = #[true, false, true, true, true, false, false] → Mem ⟨w, []⟩ [⟨g1, .cells (av 31 (w8 fun _ => 0)) 5⟩] w0 → H 3 l a w0 := by
  intro a l g1 x_6 u0 ha hl M
  generalize slt a = v at ha
  subst ha hl
  refine hB _ _ _ _ <| qO 1 ?_
  refine pl_back M (want_no rfl) (some 4) rfl _ rfl 0 g1 31 31 (by kernel_rfl) _ rfl (List.replicate 31 0) 31 sb_z (by simp) z31 <| nT ?_
  refine ⟨(M.drop (jK (.slnil))), ?_⟩
  refine qH (M.drop (jK (.slnil))) 5 8 (.string ((bs (List.replicate 31 0)) ++ (bs [c_]))) (fun w _ => (run_cat 9 9 _ _ rfl (bs (List.replicate 31 0)) (bs [c_]) (by kernel_rfl) (by kernel_rfl) (by rw [bs_size, bs_size, List.length_replicate]; exact (by decide : 31 + 1 ≤ 9223372036854775807))) w) ?_
  exact hA _ _ _ _ (s9 _ _ (.slice (some ⟨g1, 0, none⟩) 31 31) (x_6) _ (by kernel_rfl) (by kernel_rfl) (M.drop (jK (.slnil))))
 have s3 : ∀ (a : Act) (l : Array Bool) (x_3 : Value) (w0 : World), a = (fm ([.int .u8 c_, slt a 1, .string zb, x_3, .string (bs (List.replicate 31 0)), .int .u8 c_] ++ vr (slt a) 6 3)) → l = #[true, true, true, false, false, false, false] → Mem ⟨w, []⟩ [] w0 → H 4 l a w0 := by
  intro a l  x_3 u0 ha hl M
  generalize slt a = v at ha
  subst ha hl
  refine hB _ _ _ _ <| qO 3 ?_
  refine ZM M 6 (fun g2 => .slice (some ⟨g2, 0, none⟩) 1 1) (.cells (av 1 (ls [.int .u8 c_])) 5) fun g2 u3 M => nT ?_
  refine ⟨(M.drop (jK (.slnil))), ?_⟩
  exact hA _ _ _ _ (s7 _ _ g2 (x_3) _ (by kernel_rfl) (by kernel_rfl) M)
 have s4 : ∀ (a : Act) (l : Array Bool) (g1 g2 : Nat) (w0 : World), a = (fm ([.int .u8 c_, slt a 1, .string zb, .slice (some ⟨g1, 0, none⟩) 31 31, slt a 4, .int .u8 c_, .slice (some ⟨g2, 0, none⟩) 1 1] ++ vr (slt a) 7 2)) → l = #[true, false, true, true, false, false, false] → Mem ⟨w, []⟩ [⟨g1, .cells (av 31 (w8 fun _ => 0)) 5⟩, ⟨g2, .cells (av 1 (ls [.int .u8 c_])) 5⟩] w0 → H 4 l a w0 := by
  intro a l g1 g2  u0 ha hl M
  generalize slt a = v at ha
  subst ha hl
  refine hB _ _ _ _ ?_
  refine hl_two 1 4 (by decide) (by decide) (by kernel_rfl) rfl rfl ?_ ?_
  ·refine pl_back M (want_no rfl) (some 4) rfl _ rfl 0 g1 31 31 (by kernel_rfl) _ rfl (List.replicate 31 0) 31 sb_z (by simp) z31 <| nT ?_
   refine ⟨(M.drop (jK (.cons _ (.slnil)))), ?_⟩
   exact hA _ _ _ _ (s7 _ _ g2 (.slice (some ⟨g1, 0, none⟩) 31 31) _ (by kernel_rfl) (by kernel_rfl) (M.drop (jK (jC (.slnil)))))
  ·refine pl_back M (want_no rfl) (some 7) rfl _ rfl 1 g2 1 1 (by kernel_rfl) _ rfl [c_] 1 (sb_one _) (by simp) (ker c_ h0 h1) <| nT ?_
   refine ⟨(M.drop (jK (.cons _ (.slnil)))), ?_⟩
   exact hA _ _ _ _ (s8 _ _ g1 (.slice (some ⟨g2, 0, none⟩) 1 1) _ (by kernel_rfl) (by kernel_rfl) (M.drop (jC (jK (.slnil)))))
 have s5 : ∀ (a : Act) (l : Array Bool) (g1 g2 : Nat) (w0 : World), a = (fm ([.int .u8 c_, slt a 1, .string zb, .slice (some ⟨g2, 0, none⟩) 31 31, slt a 4, .int .u8 c_, .slice (some ⟨g1, 0, none⟩) 1 1] ++ vr (slt a) 7 2)) → l = #[true, false, true, true, false, false, false] → Mem ⟨w, []⟩ [⟨g1, .cells (av 1 (ls [.int .u8 c_])) 5⟩, ⟨g2, .cells (av 31 (w8 fun _ => 0)) 5⟩] w0 → H 4 l a w0 := by
  intro a l g1 g2  u0 ha hl M
  generalize slt a = v at ha
  subst ha hl
  refine hB _ _ _ _ ?_
  refine hl_two 1 4 (by decide) (by decide) (by kernel_rfl) rfl rfl ?_ ?_
  ·refine pl_back M (want_no rfl) (some 4) rfl _ rfl 1 g2 31 31 (by kernel_rfl) _ rfl (List.replicate 31 0) 31 sb_z (by simp) z31 <| nT ?_
   refine ⟨(M.drop (jK (.cons _ (.slnil)))), ?_⟩
   exact hA _ _ _ _ (s7 _ _ g1 (.slice (some ⟨g2, 0, none⟩) 31 31) _ (by kernel_rfl) (by kernel_rfl) (M.drop (jC (jK (.slnil)))))
  ·refine pl_back M (want_no rfl) (some 7) rfl _ rfl 0 g1 1 1 (by kernel_rfl) _ rfl [c_] 1 (sb_one _) (by simp) (ker c_ h0 h1) <| nT ?_
   refine ⟨(M.drop (jK (.cons _ (.slnil)))), ?_⟩
   exact hA _ _ _ _ (s8 _ _ g2 (.slice (some ⟨g1, 0, none⟩) 1 1) _ (by kernel_rfl) (by kernel_rfl) (M.drop (jK (jC (.slnil)))))
 have s6 : ∀ (a : Act) (l : Array Bool) (x_6 : Value) (w0 : World), a = (fm ([.int .u8 c_, slt a 1, .string zb] ++ vr (slt a) 3 2 ++ [.int .u8 c_, x_6, .string (bs [c_]), slt a 8])) → l = #[false, false, true, true, true, false, false] → Mem ⟨w, []⟩ [] w0 → H 4 l a w0 := by
  intro a l  x_6 u0 ha hl M
  generalize slt a = v at ha
  subst ha hl
  refine hB _ _ _ _ <| qO 0 ?_
  refine ZM M 3 (fun g2 => .slice (some ⟨g2, 0, none⟩) 31 31) (.cells (av 31 (w8 fun _ => 0)) 5) fun g2 u3 M => nT ?_
  refine ⟨(M.drop (jK (.slnil))), ?_⟩
  exact hA _ _ _ _ (s8 _ _ g2 (x_6) _ (by kernel_rfl) (by kernel_rfl) M)
 have s1 : ∀ (a : Act) (l : Array Bool) (g1 : Nat) (w0 : World), a = (fm ([.int .u8 c_, slt a 1, .string zb, .slice (some ⟨g1, 0, none⟩) 31 31, slt a 4, .int .u8 c_] ++ vr (slt a) 6 3)) → l = #[true, false, true, false, false, false, false] → Mem ⟨w, []⟩ [⟨g1, .cells (av 31 (w8 fun _ => 0)) 5⟩] w0 → H 5 l a w0 := by
  intro a l g1  u0 ha hl M
  generalize slt a = v at ha
  subst ha hl
  refine hB _ _ _ _ ?_
  refine hl_two 1 3 (by decide) (by decide) (by kernel_rfl) rfl rfl ?_ ?_
  ·refine pl_back M (want_no rfl) (some 4) rfl _ rfl 0 g1 31 31 (by kernel_rfl) _ rfl (List.replicate 31 0) 31 sb_z (by simp) z31 <| nT ?_
   refine ⟨(M.drop (jK (.slnil))), ?_⟩
   exact hA _ _ _ _ (s3 _ _ (.slice (some ⟨g1, 0, none⟩) 31 31) _ (by kernel_rfl) (by kernel_rfl) (M.drop (jK (.slnil))))
  ·refine ZM M 6 (fun g2 => .slice (some ⟨g2, 0, none⟩) 1 1) (.cells (av 1 (ls [.int .u8 c_])) 5) fun g2 u3 M => nT ?_
   refine ⟨(M.drop (jK (.cons _ (.slnil)))), ?_⟩
   exact hA _ _ _ _ (s4 _ _ g1 g2 _ (by kernel_rfl) (by kernel_rfl) M)
 have s2 : ∀ (a : Act) (l : Array Bool) (g1 : Nat) (w0 : World), a = (fm ([.int .u8 c_, slt a 1, .string zb] ++ vr (slt a) 3 2 ++ [.int .u8 c_, .slice (some ⟨g1, 0, none⟩) 1 1] ++ vr (slt a) 7 2)) → l = #[false, false, true, true, false, false, false] → Mem ⟨w, []⟩ [⟨g1, .cells (av 1 (ls [.int .u8 c_])) 5⟩] w0 → H 5 l a w0 := by
  intro a l g1  u0 ha hl M
  generalize slt a = v at ha
  subst ha hl
  refine hB _ _ _ _ ?_
  refine hl_two 0 4 (by decide) (by decide) (by kernel_rfl) rfl rfl ?_ ?_
  ·refine ZM M 3 (fun g2 => .slice (some ⟨g2, 0, none⟩) 31 31) (.cells (av 31 (w8 fun _ => 0)) 5) fun g2 u3 M => nT ?_
   refine ⟨(M.drop (jK (.cons _ (.slnil)))), ?_⟩
   exact hA _ _ _ _ (s5 _ _ g1 g2 _ (by kernel_rfl) (by kernel_rfl) M)
  ·refine pl_back M (want_no rfl) (some 7) rfl _ rfl 0 g1 1 1 (by kernel_rfl) _ rfl [c_] 1 (sb_one _) (by simp) (ker c_ h0 h1) <| nT ?_
   refine ⟨(M.drop (jK (.slnil))), ?_⟩
   exact hA _ _ _ _ (s6 _ _ (.slice (some ⟨g1, 0, none⟩) 1 1) _ (by kernel_rfl) (by kernel_rfl) (M.drop (jK (.slnil))))
 have s0 : ∀ (a : Act) (l : Array Bool) (w0 : World), a = (fm ([.int .u8 c_, slt a 1, .string zb] ++ vr (slt a) 3 2 ++ [.int .u8 c_] ++ vr (slt a) 6 3)) → l = #[false, false, true, false, false, false, false] → Mem ⟨w, []⟩ [] w0 → H 6 l a w0 := by
  intro a l   u0 ha hl M
  generalize slt a = v at ha
  subst ha hl
  refine hB _ _ _ _ ?_
  refine hl_two 0 3 (by decide) (by decide) (by kernel_rfl) rfl rfl ?_ ?_
  ·refine ZM M 3 (fun g1 => .slice (some ⟨g1, 0, none⟩) 31 31) (.cells (av 31 (w8 fun _ => 0)) 5) fun g1 u2 M => nT ?_
   refine ⟨(M.drop (jK (.slnil))), ?_⟩
   exact hA _ _ _ _ (s1 _ _ g1 _ (by kernel_rfl) (by kernel_rfl) M)
  ·refine ZM M 6 (fun g1 => .slice (some ⟨g1, 0, none⟩) 1 1) (.cells (av 1 (ls [.int .u8 c_])) 5) fun g1 u2 M => nT ?_
   refine ⟨(M.drop (jK (.slnil))), ?_⟩
   exact hA _ _ _ _ (s2 _ _ g1 _ (by kernel_rfl) (by kernel_rfl) M)
 exact s0 _ _  _ (by kernel_rfl) (by kernel_rfl) M
theorem c_longT (ra rb re rf rp ro rt : Yb) (hz : ra.size + rb.size + re.size + rf.size + rp.size + ro.size + rt.size < 4611686018427387904) (h : 1024 < ra.size + rb.size + re.size + rf.size + rp.size + ro.size + rt.size) (w : World) (hL : Laid w)  : Cs 7 #[.agg (av 7 (sQ [ra, rb, re, rf, rp, ro, rt]))] w (.bool true) := by
 go_enter Tryz.func7, Tryz.ntmps7
 have M := Mem.start hL
 refine sR <| pN M 1 (.cells (av 7 (sQ [ra, rb, re, rf, rp, ro, rt])) 23) fun g1 u1 M => rV 1 <| nT <| sR <| rV 1 <| ZE M 4 0 0 <| rV 2 <| ZE M 7 0 1 <| rV 1 <| zW 9 ((ra.size : Int) + (rb.size : Int)) <| rV 1 <| ZE M 11 0 2 <| rV 1 <| zW 13 (((ra.size : Int) + (rb.size : Int)) + (re.size : Int)) <| rV 1 ?_
 refine ZE M 15 0 3 <| rV 1 <| zW 17 ((((ra.size : Int) + (rb.size : Int)) + (re.size : Int)) + (rf.size : Int)) <| rV 1 <| ZE M 19 0 4 <| rV 1 <| zW 21 (((((ra.size : Int) + (rb.size : Int)) + (re.size : Int)) + (rf.size : Int)) + (rp.size : Int)) <| rV 1 <| ZE M 23 0 5 <| rV 1 <| zW 25 ((((((ra.size : Int) + (rb.size : Int)) + (re.size : Int)) + (rf.size : Int)) + (rp.size : Int)) + (ro.size : Int)) <| rV 1 <| ZE M 27 0 6 <| rV 1 <| zW 29 (((((((ra.size : Int) + (rb.size : Int)) + (re.size : Int)) + (rf.size : Int)) + (rp.size : Int)) + (ro.size : Int)) + (rt.size : Int)) ?_
 by_cases c0 : 1024 < (((((((ra.size : Int) + (rb.size : Int)) + (re.size : Int)) + (rf.size : Int)) + (rp.size : Int)) + (ro.size : Int)) + (rt.size : Int))
 ·refine wT 30 c0 <| rV 1 <| nT <| wp_ret ?_
  exact b1 M
 ·exact absurd (by omega) c0
theorem c_longF (ra rb re rf rp ro rt : Yb) (h : ¬ 1024 < ra.size + rb.size + re.size + rf.size + rp.size + ro.size + rt.size) (w : World) (hL : Laid w)  : Cs 7 #[.agg (av 7 (sQ [ra, rb, re, rf, rp, ro, rt]))] w (.bool false) := by
 go_enter Tryz.func7, Tryz.ntmps7
 have M := Mem.start hL
 refine sR <| pN M 1 (.cells (av 7 (sQ [ra, rb, re, rf, rp, ro, rt])) 23) fun g1 u1 M => rV 1 <| nT <| sR <| rV 1 <| ZE M 4 0 0 <| rV 2 <| ZE M 7 0 1 <| rV 1 <| zW 9 ((ra.size : Int) + (rb.size : Int)) <| rV 1 <| ZE M 11 0 2 <| rV 1 <| zW 13 (((ra.size : Int) + (rb.size : Int)) + (re.size : Int)) <| rV 1 ?_
 refine ZE M 15 0 3 <| rV 1 <| zW 17 ((((ra.size : Int) + (rb.size : Int)) + (re.size : Int)) + (rf.size : Int)) <| rV 1 <| ZE M 19 0 4 <| rV 1 <| zW 21 (((((ra.size : Int) + (rb.size : Int)) + (re.size : Int)) + (rf.size : Int)) + (rp.size : Int)) <| rV 1 <| ZE M 23 0 5 <| rV 1 <| zW 25 ((((((ra.size : Int) + (rb.size : Int)) + (re.size : Int)) + (rf.size : Int)) + (rp.size : Int)) + (ro.size : Int)) <| rV 1 <| ZE M 27 0 6 <| rV 1 <| zW 29 (((((((ra.size : Int) + (rb.size : Int)) + (re.size : Int)) + (rf.size : Int)) + (rp.size : Int)) + (ro.size : Int)) + (rt.size : Int)) ?_
 by_cases c0 : 1024 < (((((((ra.size : Int) + (rb.size : Int)) + (re.size : Int)) + (rf.size : Int)) + (rp.size : Int)) + (ro.size : Int)) + (rt.size : Int))
 ·exact absurd c0 (by omega)
 ·refine wF 30 c0 <| rV 1 <| nT <| wp_ret ?_
  exact b1 M
theorem c_ReadQ (w : World) (hL : Laid w) : Cs 13 #[.string Mon.bbS, .string qS, .string mK] w (.tuple #[.pointer none, .agg (av 5 (zq 5)), .int .i64 100]) := by
 have h := c_ReadE Mon.bbS qS mK (by rw [read_q]; decide) w hL
 rwa [read_q] at h
theorem c_alive  (w : World) (hL : Laid w)  : Cs 8 #[] w (.bool true) := by
 go_enter Tryz.func8, Tryz.ntmps8
 have M := Mem.start hL
 refine sq <| sR <| ZC M 20 (fun w M => c_key 98 (by decide) (by decide) w M.laid) fun u1 M => pD M 21 (.tuple #[.string (puV Mon.bbS), .int .i64 0]) (fun w M => Mon.rpubL Mon.bbS w M.laid Mon.bbS_size) fun u2 M => rV 5 <| nT <| sR <| ZC M 25 (fun w M => c_key 97 (by decide) (by decide) w M.laid) fun u3 M => pD M 26 (.tuple #[.string (puV Mon.aS), .int .i64 0]) (fun w M => Mon.rpubL Mon.aS w M.laid Mon.aS_size) fun u4 M => rV 5 <| nT <| sR <| ZC M 30 (fun w M => c_key 97 (by decide) (by decide) w M.laid) fun u5 M => rV 1 <| ZC M 32 (fun w M => c_key 101 (by decide) (by decide) w M.laid) fun u6 M => pl_calln M (want_no rfl) (some 33) rfl 10 #[.string Mon.aS, .string (puV Mon.bbS), .string keE, .string ⟨#[112]⟩, .string ⟨#[97, 98, 99]⟩] (fun g1 => .tuple #[pJ g1, .string mK, .int .i64 0]) (.cells (av 7 (stL sK [.string Mon.aS, .string keE, .string (puV Mon.bbS)])) 66) (fun _ => by kernel_rfl) (fun w M => c_BeginG Mon.aS Mon.bbS keE pS abcS Mon.aS_size keE_size (by decide) (by decide) w M.laid) fun g1 u7 M => ?_
 refine rV 7 <| nT <| sR <| ZC M 38 (fun w M => c_key 98 (by decide) (by decide) w M.laid) fun u8 M => rV 1 <| pl_calln M (want_no rfl) (some 40) rfl 13 #[.string Mon.bbS, .string ⟨#[112]⟩, .string mK] (fun g2 => .tuple #[pJ g2, .agg (av 5 (sQ [puV Mon.aS, ⟨#[97, 98, 99]⟩, zb, zb, zb])), .int .i64 0]) (.cells (av 6 (stL sK [.string (puV Mon.aS), .string (puV keE)])) 77) (fun _ => by kernel_rfl) (fun w M => c_ReadG Mon.aS Mon.bbS keE pS abcS Mon.bbS_size (by decide) (by decide) w M.laid) fun g2 u9 M => rV 4 <| pN M 9 (.cells (av 5 (zq 5)) 41) fun g3 u10 M => rV 1 <| ZL M 2 5 (sQ [puV Mon.aS, ⟨#[97, 98, 99]⟩, zb, zb, zb]) fun u11 M => rV 1 <| nT <| sR <| ZC M 45 (fun w M => c_key 98 (by decide) (by decide) w M.laid) fun u12 M => rV 1 <| ZC M 47 (fun w M => c_ReadQ w M.laid) fun u13 M => ?_
 refine rV 4 <| pN M 12 (.cells (av 5 (zq 5)) 41) fun g4 u14 M => rV 1 <| ZL M 3 5 (zq 5) fun u15 M => rV 1 <| nT <| wp_seq <| sR <| rV 17 ?_
 by_cases c0 : (mK.size : Int) = 99
 ·refine wD 68 c0 <| rV 3 <| ZE M 72 2 0 <| rV 1 <| zN 74 (puV Mon.aS) <| rV 3 <| ZE M 78 2 1 <| rV 6 <| nT <| cF <| wp_skip <| au_then <| sR <| rV 1 <| ZC M 87 (fun w M => c_key 102 (by decide) (by decide) w M.laid) fun u16 M => pD M 88 (.tuple #[.string rK, .agg (av 5 (sQ [puV Mon.aS, zb, gB, gA, gH])), .int .i64 0]) (fun w M => c_AnswerG g2 sK Mon.aS keE keF xyS (tS5_h _ _ _ _ _) rfl keF_size (by decide) w M.laid (M.get 1 rfl) (M.ne0 1 rfl)) fun u17 M => ?_
  refine rV 4 <| pN M 15 (.cells (av 5 (zq 5)) 41) fun g5 u18 M => rV 1 <| ZL M 4 5 (sQ [puV Mon.aS, zb, gB, gA, gH]) fun u19 M => rV 1 <| nT <| sR <| rV 2 <| pD M 95 (.tuple #[.agg (av 5 (sQ [puV Mon.bbS, ⟨#[120, 121]⟩, gA, gB, gH])), .int .i64 0]) (fun w M => c_FinishG g1 sK Mon.aS keE (puV Mon.bbS) keF xyS (tS5_h _ _ _ _ _) rfl Mon.aS_size keE_size (by decide) w M.laid (M.get 0 rfl) (M.ne0 0 rfl)) fun u20 M => rV 3 <| pN M 17 (.cells (av 5 (zq 5)) 41) fun g6 u21 M => ZL M 5 5 (sQ [puV Mon.bbS, ⟨#[120, 121]⟩, gA, gB, gH]) fun u22 M => rV 1 <| nT <| sR <| rV 9 ?_
  by_cases c1 : (rK.size : Int) = 50
  ·refine wT 107 c1 <| rV 3 <| ZE M 111 5 1 <| rV 4 <| ZE M 116 4 2 <| rV 1 ?_
   by_cases c2 : (gB.size : Int) = 32
   ·refine wT 118 c2 <| rV 3 <| ZE M 122 4 2 <| rV 1 <| ZE M 124 5 3 <| zT 125 gB <| rV 3 <| ZE M 129 4 3 <| rV 1 <| ZE M 131 5 2 <| zT 132 gA <| rV 3 <| ZE M 136 4 4 <| rV 1 <| ZE M 138 5 4 <| zT 139 gH ?_
    refine rV 3 <| ZE M 143 4 2 <| rV 1 <| ZE M 145 4 3 ?_
    by_cases c3 : gB = gA
    ·exact absurd c3 gAB
    ·refine zJ 146 (.bool true) (.bool (!(gB.toList == gA.toList))) (by rw [seq_neg c3]; rfl) <| rV 2 <| nT <| wp_ret ?_
     exact b1 M
   ·exact absurd (by rw [gB_size]; rfl) c2
  ·exact absurd (by rw [rK_size]; rfl) c1
 ·exact absurd (by rw [mK_size]; rfl) c0
open Go.RowKit
section
variable {P : Program}
theorem eqF_all (d : Nat) (xs ys : Array Value) (w : World) : ∀ (fs : List Field) (es : List (TypeId × Nat × Value × Value × Bool)), fs.map (fun f => (f.name == "_", f.type, f.offset)) = es.map (fun e => (false, e.1, e.2.1)) →
  (∀ e ∈ es, (part e.1 xs e.2.1).run P w = .ok e.2.2.1 w ∧ (part e.1 ys e.2.1).run P w = .ok e.2.2.2.1 w ∧ (Op.equalIn d e.1 e.2.2.1 e.2.2.2.1).run P w = .ok e.2.2.2.2 w) →
  (Op.eqFields d xs ys fs).run P w = .ok (es.all (·.2.2.2.2)) w
 | [], es, h, _ => by
  cases es with
  | nil => rfl
  | cons e es => simp at h
 | f :: fs, es, h, hp => by
  cases es with
  | nil => simp at h
  | cons e es =>
   simp only [List.map_cons, List.cons.injEq, Prod.mk.injEq] at h
   obtain ⟨⟨h1, h2, h3⟩, h4⟩ := h
   obtain ⟨p1, p2, p3⟩ := hp e (List.mem_cons_self ..)
   have hn : f.name ≠ "_" := by simpa using h1
   unfold Op.eqFields
   rw [if_pos hn]
   simp only [Sem.run_bind, h2, h3, p1, p2, p3, Result.andThen_ok, List.all_cons]
   cases hb : e.2.2.2.2
   ·simp
   ·simp only [Bool.not_true, Bool.false_eq_true, if_false, Bool.true_and]
    exact eqF_all d xs ys w fs es h4 fun e he => hp e (List.mem_cons_of_mem _ he)
theorem dec_str (a b : Yb) : (a.toList == b.toList) = decide (a = b) := by
 by_cases h : a = b
 ·rw [seq_pos h, decide_eq_true h]
 ·rw [seq_neg h, decide_eq_false h]
end
theorem run_bin {P : Program} {a : Act} {o : Oper} (op : BinOp) (t : TypeId) (x y : Operand) {rt : TypeId} (ho : o.op = .binOp op t x y rt) {xs ys : Array Value} {v : Value} (hx : a.eval x = .agg xs) (hy : a.eval y = .agg ys) (hm : P.eqGuardType P.depth t = false) (hb : ∀ w, (binOp op t (.agg xs) (.agg ys)).run P w = .ok v w) (w : World) :
  (execOp a.eval o).run P w = .ok (.value v) w := by
 unfold execOp
 simp only [ho, hx, hy, Sem.run_bind, Result.andThen_ok, run_eqGuard_agg (hm := hm), hb, Sem.run_pure]
theorem eqI41 (d : Nat) (x0 x0' : Yb) (x1 x1' : Yb) (x2 x2' : Yb) (x3 x3' : Yb) (x4 x4' : Yb) (w : World) : (Op.equalIn (d + 2) 41 (.agg (av 5 (sQ [x0, x1, x2, x3, x4]))) (.agg (av 5 (sQ [x0', x1', x2', x3', x4'])))).run Tryz.prog w = .ok (decide (x0 = x0' ∧ x1 = x1' ∧ x2 = x2' ∧ x3 = x3' ∧ x4 = x4')) w := by
 rw [run_equalIn_struct w (d + 1) 41 _ _ (by kernel_rfl) (by kernel_rfl)]
 rw [eqF_all (d + 1) _ _ w _ [(9, 0, .string x0, .string x0', x0.toList == x0'.toList), (9, 1, .string x1, .string x1', x1.toList == x1'.toList), (9, 2, .string x2, .string x2', x2.toList == x2'.toList), (9, 3, .string x3, .string x3', x3.toList == x3'.toList), (9, 4, .string x4, .string x4', x4.toList == x4'.toList)] (by kernel_rfl) (by
  intro e he
  simp only [List.mem_cons, List.mem_nil_iff, or_false] at he
  rcases he with rfl | rfl | rfl | rfl | rfl
  ·exact ⟨by kernel_rfl, by kernel_rfl, run_equalIn_string w d 9 x0 x0' Tryz.underlying9⟩
  ·exact ⟨by kernel_rfl, by kernel_rfl, run_equalIn_string w d 9 x1 x1' Tryz.underlying9⟩
  ·exact ⟨by kernel_rfl, by kernel_rfl, run_equalIn_string w d 9 x2 x2' Tryz.underlying9⟩
  ·exact ⟨by kernel_rfl, by kernel_rfl, run_equalIn_string w d 9 x3 x3' Tryz.underlying9⟩
  ·exact ⟨by kernel_rfl, by kernel_rfl, run_equalIn_string w d 9 x4 x4' Tryz.underlying9⟩)]
 simp [Bool.decide_and, Bool.and_assoc, dec_str]
theorem eql41w (x0 x0' : Yb) (x1 x1' : Yb) (x2 x2' : Yb) (x3 x3' : Yb) (x4 x4' : Yb) (w : World) : (binOp .eql 41 (.agg (av 5 (sQ [x0, x1, x2, x3, x4]))) (.agg (av 5 (sQ [x0', x1', x2', x3', x4'])))).run Tryz.prog w = .ok (.bool (decide (x0 = x0' ∧ x1 = x1' ∧ x2 = x2' ∧ x3 = x3' ∧ x4 = x4'))) w := by
 rw [run_eql_struct]
 have := eqI41 9998 x0 x0' x1 x1' x2 x2' x3 x3' x4 x4' w
 rw [show (10000 : Nat) = 9998 + 2 from rfl, this]
 rfl
theorem eql41 {a : Act} {o : Oper} (x0 x0' : Yb) (x1 x1' : Yb) (x2 x2' : Yb) (x3 x3' : Yb) (x4 x4' : Yb) (x y : Operand) {rt : TypeId} (ho : o.op = .binOp .eql 41 x y rt) (hx : a.eval x = (.agg (av 5 (sQ [x0, x1, x2, x3, x4])))) (hy : a.eval y = (.agg (av 5 (sQ [x0', x1', x2', x3', x4'])))) (w : World) :
  (execOp a.eval o).run Tryz.prog w = .ok (.value (.bool (decide (x0 = x0' ∧ x1 = x1' ∧ x2 = x2' ∧ x3 = x3' ∧ x4 = x4')))) w := run_bin .eql 41 x y ho hx hy (by kernel_rfl) (eql41w x0 x0' x1 x1' x2 x2' x3 x3' x4 x4') w
theorem neq41w (x0 x0' : Yb) (x1 x1' : Yb) (x2 x2' : Yb) (x3 x3' : Yb) (x4 x4' : Yb) (w : World) : (binOp .neq 41 (.agg (av 5 (sQ [x0, x1, x2, x3, x4]))) (.agg (av 5 (sQ [x0', x1', x2', x3', x4'])))).run Tryz.prog w = .ok (.bool (!decide (x0 = x0' ∧ x1 = x1' ∧ x2 = x2' ∧ x3 = x3' ∧ x4 = x4'))) w := by
 rw [run_neq_struct]
 have := eqI41 9998 x0 x0' x1 x1' x2 x2' x3 x3' x4 x4' w
 rw [show (10000 : Nat) = 9998 + 2 from rfl, this]
 rfl
theorem neq41 {a : Act} {o : Oper} (x0 x0' : Yb) (x1 x1' : Yb) (x2 x2' : Yb) (x3 x3' : Yb) (x4 x4' : Yb) (x y : Operand) {rt : TypeId} (ho : o.op = .binOp .neq 41 x y rt) (hx : a.eval x = (.agg (av 5 (sQ [x0, x1, x2, x3, x4])))) (hy : a.eval y = (.agg (av 5 (sQ [x0', x1', x2', x3', x4'])))) (w : World) :
  (execOp a.eval o).run Tryz.prog w = .ok (.value (.bool (!decide (x0 = x0' ∧ x1 = x1' ∧ x2 = x2' ∧ x3 = x3' ∧ x4 = x4')))) w := run_bin .neq 41 x y ho hx hy (by kernel_rfl) (neq41w x0 x0' x1 x1' x2 x2' x3 x3' x4 x4') w
section
variable {ops : Array Oper} {rest : List Oper} {o : Oper} {a : Act} {w : World} {c : Ctx} {L : List Blk} {Q : Exit → Act → World → Prop}
theorem z41 (d : Tmp) (x0 x1 x2 x3 x4 : Yb) (h : PL Tryz.prog ops Q rest (a.put (some d) (.bool true)) w) {x y : Operand} {rt : TypeId} (ho : o.op = .binOp .eql 41 x y rt := by exact rfl) (hx : Ev a x (.agg (av 5 (sQ [x0, x1, x2, x3, x4]))) := by exact ⟨by kernel_rfl⟩) (hy : Ev a y (.agg (av 5 (sQ [x0, x1, x2, x3, x4]))) := by exact ⟨by kernel_rfl⟩) (hw : Wn ops o a = true := by first | exact want_no rfl | kernel_rfl) (hd : o.dst = some d := by exact rfl) : PL Tryz.prog ops Q (o :: rest) a w := pH d _ (fun w => (eql41 x0 x0 x1 x1 x2 x2 x3 x3 x4 x4 x y ho hx.out hy.out w).trans (by rw [decide_eq_true ⟨rfl, rfl, rfl, rfl, rfl⟩])) h hw hd
theorem n41 (d : Tmp) (x0 x1 x2 x3 x4 : Yb) (h : PL Tryz.prog ops Q rest (a.put (some d) (.bool false)) w) {x y : Operand} {rt : TypeId} (ho : o.op = .binOp .neq 41 x y rt := by exact rfl) (hx : Ev a x (.agg (av 5 (sQ [x0, x1, x2, x3, x4]))) := by exact ⟨by kernel_rfl⟩) (hy : Ev a y (.agg (av 5 (sQ [x0, x1, x2, x3, x4]))) := by exact ⟨by kernel_rfl⟩) (hw : Wn ops o a = true := by first | exact want_no rfl | kernel_rfl) (hd : o.dst = some d := by exact rfl) : PL Tryz.prog ops Q (o :: rest) a w := pH d _ (fun w => (neq41 x0 x0 x1 x1 x2 x2 x3 x3 x4 x4 x y ho hx.out hy.out w).trans (by rw [decide_eq_true ⟨rfl, rfl, rfl, rfl, rfl⟩]; rfl)) h hw hd
end
open Go.RowKit
theorem d_Bh (t : Yb) (ht : t.size < 100000) (w : World) (hL : Laid w) : Cs 50 #[.string t] w (.string (Bh t)) := Bla.d_ofb t ht w hL
theorem d_shZ (x y : Yb) (hx : x.size = 32) (hy : y.size = 32) (h : shN x y = 0) (w : World) (hL : Laid w) : Cs 51 #[.string x, .string y] w (.tuple #[.string zb, .int .i64 30]) := Mon.rshL x y w hL 0 hx hy h
theorem d_shN (x y : Yb) (hx : x.size = 32) (hy : y.size = 32) (h : ¬ shN x y = 0) (w : World) (hL : Laid w) : Cs 51 #[.string x, .string y] w (.tuple #[.string (Mon.lebytes (shN x y)), .int .i64 0]) := by
 have h1 := Mon.rshL x y w hL (shN x y) hx hy rfl
 rwa [Mon.sS_ne h, Mon.sC_ne h] at h1
theorem inz33 : (Tryz.prog.info? 33).map (·.size) = some 3 := by kernel_rfl
theorem pl_callg {P : Program} {ops : Array Oper} {rest : List Oper} {o : Oper} {a : Act} {w : World} {c : Ctx} {L : List Blk} {Q : Exit → Act → World → Prop} (M : Mem c L w) (hw : Region.wanted o (yielded ops a.tmps) = true) (d : Option Tmp) (hd : o.dst = d) (f : FuncId) (args : Array Value) (v : Nat → Nat → Value) (R : Nat → Obj → Prop) (hrun : ∀ w, (execOp a.eval o).run P w = .ok (.enter f args) w)
  (hc : ∀ w, Mem c L w → Calls P f args w fun e w' => ∃ g cap Y, e = .returned (v g cap) ∧ w.heap.size ≤ g ∧ w'.heap[g]? = some Y ∧ R cap Y ∧ Below w.heap.size w w') (h : ∀ g cap Y w', R cap Y → Mem c (L ++ [⟨g, Y⟩]) w' → PL P ops Q rest (a.put d (v g cap)) w') : PL P ops Q (o :: rest) a w :=
 pl_callq hw d hd f args hrun ((hc w M).mono fun _ w' ⟨g, cap, Y, he, h1, h2, h3, hb⟩ => ⟨v g cap, he, h g cap Y w' h3 (M.new g Y hb h2 h1)⟩)
theorem results_ctt {P : Program} {fn : Func} {p q r : Tmp} {ty : TypeId} (h : fn.results = #[.cell p ty, .tmp q, .tmp r]) (tmps : Array Value) (w : World) (g : Nat) (t : TypeId) (cs : Array Value) (fr : Nat × Nat) (d : TypeDesc) (v x : Value) (hp : tmps.getD p undef = pJ g) (hq : tmps.getD q undef = v) (hr : tmps.getD r undef = x) (hg : w.heap[g]? = some (.cells cs t fr))
  (hu : P.underlying ty = some d) (hd : (match d with | .struct _ | .array _ _ => true | _ => false) = true) (hi : (P.info? ty).map (·.size) = some cs.size) : (results fn tmps).run P w = .ok (.tuple #[.agg cs, v, x]) w := by
 subst hq hr
 have hp' : tmps[p]?.getD undef = pJ g := by simpa using hp
 simp [results, h, hp', asAddr, run_loadVar_row w g t ty cs fr d hg hu hd hi]
theorem results_cct {P : Program} {fn : Func} {p q r : Tmp} {ty tz : TypeId} (h : fn.results = #[.cell p ty, .cell q tz, .tmp r]) (tmps : Array Value) (w : World) (g : Nat) (t : TypeId) (cs : Array Value) (fr : Nat × Nat) (d : TypeDesc) (g2 : Nat) (t2 : TypeId) (cs2 : Array Value) (fr2 : Nat × Nat) (d2 : TypeDesc) (x : Value) (hp : tmps.getD p undef = pJ g) (hq : tmps.getD q undef = pJ g2) (hr : tmps.getD r undef = x) (hg : w.heap[g]? = some (.cells cs t fr))
  (hu : P.underlying ty = some d) (hd : (match d with | .struct _ | .array _ _ => true | _ => false) = true) (hi : (P.info? ty).map (·.size) = some cs.size) (hg2 : w.heap[g2]? = some (.cells cs2 t2 fr2))
  (hu2 : P.underlying tz = some d2) (hd2 : (match d2 with | .struct _ | .array _ _ => true | _ => false) = true) (hi2 : (P.info? tz).map (·.size) = some cs2.size) : (results fn tmps).run P w = .ok (.tuple #[.agg cs, .agg cs2, x]) w := by
 subst hr
 have hp' : tmps[p]?.getD undef = pJ g := by simpa using hp
 have hq' : tmps[q]?.getD undef = pJ g2 := by simpa using hq
 simp [results, h, hp', hq', asAddr, run_loadVar_row w g t ty cs fr d hg hu hd hi, run_loadVar_row w g2 t2 tz cs2 fr2 d2 hg2 hu2 hd2 hi2]
section
variable {P : Program} {ops : Array Oper} {rest : List Oper} {o : Oper} {a : Act} {w : World} {c : Ctx} {L : List Blk} {Q : Exit → Act → World → Prop}
theorem bctt {fn : Func} {Φ : Ending → World → Prop} {p q r : Tmp} {t0 : TypeId} (h : fn.results = #[.cell p t0, .tmp q, .tmp r]) (M : Mem c L w) (i0 n0 : Nat) (F0 : NV) (x1 : Value) (x2 : Value) (hX : Φ (.returned (.tuple #[.agg (av n0 F0), x1, x2])) w) {g0 T0 : Nat} (hi0 : L[i0]? = some ⟨g0, .cells (av n0 F0) T0⟩ := by exact rfl) (hp0 : Ep a p (pJ g0) := by exact ⟨by kernel_rfl⟩) (hu0 : (P.underlying t0).map TypeDesc.isRow = some true := by kernel_rfl) (hz0 : (P.info? t0).map (·.size) = some n0 := by kernel_rfl) (hp1 : Ep a q x1 := by exact ⟨by kernel_rfl⟩) (hp2 : Ep a r x2 := by exact ⟨by kernel_rfl⟩) (hd : a.defers = [] := by kernel_rfl) : bodyPost P fn Φ .ret a w := by
 obtain ⟨d0, e0, f0⟩ := isRow_of hu0
 exact bodyPost_ret (results_ctt h _ _ g0 T0 (av n0 F0) (0, 0) _ _ _ hp0.out hp1.out hp2.out (M.get i0 hi0) e0 (by revert f0; cases d0 <;> intro f <;> first | rfl | cases f) (by rw [av_size]; exact hz0)) hd hX
theorem bcct {fn : Func} {Φ : Ending → World → Prop} {p q r : Tmp} {t0 t1 : TypeId} (h : fn.results = #[.cell p t0, .cell q t1, .tmp r]) (M : Mem c L w) (i0 n0 : Nat) (F0 : NV) (i1 n1 : Nat) (F1 : NV) (x2 : Value) (hX : Φ (.returned (.tuple #[.agg (av n0 F0), .agg (av n1 F1), x2])) w) {g0 T0 : Nat} {g1 T1 : Nat} (hi0 : L[i0]? = some ⟨g0, .cells (av n0 F0) T0⟩ := by exact rfl) (hp0 : Ep a p (pJ g0) := by exact ⟨by kernel_rfl⟩) (hu0 : (P.underlying t0).map TypeDesc.isRow = some true := by kernel_rfl) (hz0 : (P.info? t0).map (·.size) = some n0 := by kernel_rfl) (hi1 : L[i1]? = some ⟨g1, .cells (av n1 F1) T1⟩ := by exact rfl) (hp1 : Ep a q (pJ g1) := by exact ⟨by kernel_rfl⟩) (hu1 : (P.underlying t1).map TypeDesc.isRow = some true := by kernel_rfl) (hz1 : (P.info? t1).map (·.size) = some n1 := by kernel_rfl) (hp2 : Ep a r x2 := by exact ⟨by kernel_rfl⟩) (hd : a.defers = [] := by kernel_rfl) : bodyPost P fn Φ .ret a w := by
 obtain ⟨d0, e0, f0⟩ := isRow_of hu0
 obtain ⟨d1, e1, f1⟩ := isRow_of hu1
 exact bodyPost_ret (results_cct h _ _ g0 T0 (av n0 F0) (0, 0) _ g1 T1 (av n1 F1) (0, 0) _ _ hp0.out hp1.out hp2.out (M.get i0 hi0) e0 (by revert f0; cases d0 <;> intro f <;> first | rfl | cases f) (by rw [av_size]; exact hz0) (M.get i1 hi1) e1 (by revert f1; cases d1 <;> intro f <;> first | rfl | cases f) (by rw [av_size]; exact hz1)) hd hX
end
theorem d_mix (s : St) (t : Yb) (hs : s.h.size + t.size < 100000) (w : World) (hL : Laid w)  : Cs 28 #[.agg (av 3 (tl s)), .string t] w (.agg (av 3 (tl (mixF s t)))) := by
 go_enter Tryz.func28, Tryz.ntmps28
 have M := Mem.start hL
 refine sR <| pN M 2 (.cells (av 3 (tl s)) 33) fun g1 u1 M => pN M 4 (.cells (av 3 (zq 3)) 33) fun g2 u2 M => nT <| sR <| rV 1 <| ZE M 6 0 0 <| rV 1 ?_
 refine pH 8 (.string (s.h ++ t)) (run_cat 9 9 _ _ rfl s.h t (by kernel_rfl) (by kernel_rfl) (by (try simp only [ByteArray.size_append, ByteArray.size_extract]); omega)) ?_
 refine ZC M 9 (fun w M => d_Bh (s.h ++ t) (by rw [ByteArray.size_append]; omega) w M.laid) fun u3 M => rV 1 <| pP M 0 rfl 0 (.string (Bh (s.h ++ t))) (sQ [Bh (s.h ++ t), s.c, s.k]) (by decide) (put_ls _ 0 _ _ rfl) fun u4 M => nT <| sR <| pB M 11 0 <| ZL M 1 3 (sQ [Bh (s.h ++ t), s.c, s.k]) fun u5 M => nT <| wp_ret ?_
 have e0 : mixF s t = ⟨(Bh (s.h ++ t)), s.c, s.k, s.e⟩ := rfl
 exact bc Tryz.results28 M 1 3 (sQ [Bh (s.h ++ t), s.c, s.k]) ⟨by rw [e0]; try rfl, below_grown M.old⟩
theorem d_begin (pr pu : Yb) (hp : pr.size ≤ 5000) (hq : pu.size ≤ 5000) (w : World) (hL : Laid w)  : Cs 27 #[.string pr, .string pu] w (.agg (av 3 (tl (beginF pr pu z0)))) := by
 go_enter Tryz.func27, Tryz.ntmps27
 have M := Mem.start hL
 refine sR <| pN M 4 (.cells (av 3 (zq 3)) 33) fun g1 u1 M => nT <| sR <| ZC M 7 (fun w M => d_Bh nameS (by decide) w M.laid) fun u2 M => rV 1 <| nT <| sR <| rV 3 <| pN M 6 (.cells (av 3 (zq 3)) 33) fun g2 u3 M => ZL M 1 3 (sQ [Bh nameS, Bh nameS, zb]) fun u4 M => nT <| sR <| pB M 11 1 <| rV 1 ?_
 refine pC M 13 28 #[.agg (av 3 (sQ [Bh nameS, Bh nameS, zb])), .string pr] (.agg (av 3 (tl (mixF ⟨(Bh nameS), (Bh nameS), ⟨#[]⟩, 0⟩ pr)))) (fun w M => d_mix ⟨(Bh nameS), (Bh nameS), ⟨#[]⟩, 0⟩ pr (by show (Bh _).size + _ < _; rw [Bh_size]; omega) w M.laid) fun u5 M => ?_
 refine rV 1 ?_
 refine pC M 15 28 #[.agg (av 3 (tl (mixF ⟨(Bh nameS), (Bh nameS), ⟨#[]⟩, 0⟩ pr))), .string pu] (.agg (av 3 (tl (mixF (mixF ⟨(Bh nameS), (Bh nameS), ⟨#[]⟩, 0⟩ pr) pu)))) (fun w M => d_mix (mixF ⟨(Bh nameS), (Bh nameS), ⟨#[]⟩, 0⟩ pr) pu (by show (Bh _).size + _ < _; rw [Bh_size]; omega) w M.laid) fun u6 M => ?_
 refine ZL M 0 3 (tl (mixF (mixF ⟨(Bh nameS), (Bh nameS), ⟨#[]⟩, 0⟩ pr) pu)) fun u7 M => nT <| wp_ret ?_
 exact bc Tryz.results27 M 0 3 (tl (mixF (mixF ⟨(Bh nameS), (Bh nameS), ⟨#[]⟩, 0⟩ pr) pu)) ⟨rfl, below_grown M.old⟩
theorem d_addZ (s : St) (x y : Yb) (hx : x.size = 32) (hy : y.size = 32) (_hc : s.c.size < 100000) (h : shN x y = 0) (w : World) (hL : Laid w)  : Cs 29 #[.agg (av 3 (tl s)), .string x, .string y] w (.tuple #[.agg (av 3 (tl s)), .int .i64 30]) := by
 go_enter Tryz.func29, Tryz.ntmps29
 have M := Mem.start hL
 refine sR <| pN M 3 (.cells (av 3 (tl s)) 33) fun g1 u1 M => pN M 6 (.cells (av 3 (zq 3)) 33) fun g2 u2 M => rV 1 <| nT <| sR <| rV 2 ?_
 by_cases c0 : shN x y = 0
 ·refine ZC M 15 (fun w M => d_shZ x y hx hy c0 w M.laid) fun u3 M => rV 5 <| nT <| wp_seq <| sq <| cT <| sR <| pB M 20 0 <| rV 1 <| ZL M 1 3 (tl s) fun u4 M => rV 1 <| nT <| wp_ret <| au_then_ret ?_
  exact bct Tryz.results29 M 1 3 (tl s) (.int .i64 30) ⟨rfl, below_grown M.old⟩
 ·exact absurd h c0
theorem d_addN (s : St) (x y : Yb) (hx : x.size = 32) (hy : y.size = 32) (hc : s.c.size < 100000) (h : ¬ shN x y = 0) (w : World) (hL : Laid w)  : Cs 29 #[.agg (av 3 (tl s)), .string x, .string y] w (.tuple #[.agg (av 3 (tl (adN s (shN x y)))), .int .i64 0]) := by
 go_enter Tryz.func29, Tryz.ntmps29
 have M := Mem.start hL
 refine sR <| pN M 3 (.cells (av 3 (tl s)) 33) fun g1 u1 M => pN M 6 (.cells (av 3 (zq 3)) 33) fun g2 u2 M => rV 1 <| nT <| sR <| rV 2 ?_
 by_cases c0 : shN x y = 0
 ·exact absurd c0 h
 ·refine ZC M 15 (fun w M => d_shN x y hx hy c0 w M.laid) fun u3 M => rV 5 <| nT <| wp_seq <| sq <| cF <| wp_skip <| au_then <| sR <| rV 1 <| ZE M 24 0 1 <| rV 1 <| pl_callg M (want_no rfl) (some 26) rfl 36 #[.string s.c, .string (Mon.lebytes (shN x y)), .int .i64 2] (fun g cap => .tuple #[.slice (some ⟨g, 0, none⟩) 2 cap, .int .i64 0]) (fun cap Y => SB Y cap (Bla.vtx (Bla.txt s.c (Mon.lebytes (shN x y))) 2)) (fun _ => by kernel_rfl) (fun w M => Bla.d_ch s.c (Mon.lebytes (shN x y)) (by rw [Mon.leb_size]; decide) (by omega) 2 (by decide) (by decide) w M.laid) ?_
  intro g3 cpg3 Zg3 u4 hZg3 M
  refine rV 5 <| nT <| sR <| rV 2 <| pE M 31 g3 0 (.string (nxA s.c (Mon.lebytes (shN x y)))) (fun w M => hZg3.cell (M.get 2 rfl) (Bla.vtx_get _ 2 0 (by decide))) <| rV 1 <| pP M 0 rfl 1 (.string (nxA s.c (Mon.lebytes (shN x y)))) (sQ [s.h, nxA s.c (Mon.lebytes (shN x y)), s.k]) (by decide) (put_ls _ 1 _ _ rfl) fun u5 M => nT <| sR <| rV 2 <| pE M 35 g3 1 (.string (nxB s.c (Mon.lebytes (shN x y)))) (fun w M => hZg3.cell (M.get 2 rfl) (Bla.vtx_get _ 2 1 (by decide))) <| rV 1 <| pP M 0 rfl 2 (.string (nxB s.c (Mon.lebytes (shN x y)))) (sQ [s.h, nxA s.c (Mon.lebytes (shN x y)), nxB s.c (Mon.lebytes (shN x y))]) (by decide) (put_ls _ 2 _ _ rfl) fun u6 M => nT <| sR <| pB M 37 0 ?_
  refine ZL M 1 3 (sQ [s.h, nxA s.c (Mon.lebytes (shN x y)), nxB s.c (Mon.lebytes (shN x y))]) fun u7 M => rV 1 <| nT <| wp_ret ?_
  have e0 : adN s (shN x y) = ⟨s.h, (nxA s.c (Mon.lebytes (shN x y))), (nxB s.c (Mon.lebytes (shN x y))), 0⟩ := rfl
  exact bct Tryz.results29 M 1 3 (sQ [s.h, nxA s.c (Mon.lebytes (shN x y)), nxB s.c (Mon.lebytes (shN x y))]) (.int .i64 0) ⟨by rw [e0]; try rfl, below_grown M.old⟩
theorem d_seal (s : St) (t : Yb) (hs : s.h.size = 32) (hk : s.k.size = 32) (ht : t.size ≤ 4900) (w : World) (hL : Laid w)  : Cs 30 #[.agg (av 3 (tl s)), .string t] w (.tuple #[.agg (av 3 (tl (mixF s (sealS s.k n0 s.h t)))), .string (sealS s.k n0 s.h t)]) := by
 go_enter Tryz.func30, Tryz.ntmps30
 have M := Mem.start hL
 refine sR <| pN M 2 (.cells (av 3 (tl s)) 33) fun g1 u1 M => pN M 4 (.cells (av 3 (zq 3)) 33) fun g2 u2 M => rV 1 <| nT <| wp_seq <| rgh M [⟨g1, .cells (av 3 (tl s)) 33⟩, ⟨g2, .cells (av 3 (zq 3)) 33⟩] 11 fun u3 M => qV M 0 9 (pJ g1 2) <| qE M 1 10 0 2 <| qV M 3 12 (pJ g1) <| qE M 4 13 0 0 <| qV M 5 14 (.string t) <| qO 2 ?_
 refine ZC M 11 (fun w M => d_Nonce 0 w M.laid) fun u4 M => nT ?_
 refine ⟨M, ?_⟩
 refine qO 6 ?_
 refine ZC M 15 (fun w M => d_SealA s.k n0 s.h t ⟨hk, n0_size⟩ (by omega) w M.laid) fun u5 M => nT ?_
 refine ⟨M, ?_⟩
 refine qV M 7 8 (.tuple #[.string (sealS s.k n0 s.h t), .int .i64 0]) <| qV M 8 16 (.string (sealS s.k n0 s.h t)) <| qV M 9 17 (.int .i64 0) <| qV M 10 6 (.string (sealS s.k n0 s.h t)) <| qZ ?_
 refine rV 1 <| nT <| au_then <| sR <| pB M 18 0 <| rV 1 <| ZC M 20 (fun w M => d_mix s (sealS s.k n0 s.h t) (by rw [hs, sealS_size]; omega) w M.laid) fun u6 M => rV 1 <| ZL M 1 3 (tl (mixF s (sealS s.k n0 s.h t))) fun u7 M => rV 1 <| nT <| wp_ret ?_
 exact bct Tryz.results30 M 1 3 (tl (mixF s (sealS s.k n0 s.h t))) (.string (sealS s.k n0 s.h t)) ⟨rfl, below_grown M.old⟩
theorem d_openA (s : St) (t : Yb) (hs : s.h.size = 32) (hk : s.k.size = 32) (ht : t.size ≤ 4900) (h6 : 16 ≤ t.size) (h : tagOk s t) (w : World) (hL : Laid w)  : Cs 33 #[.agg (av 3 (tl s)), .string t] w (.tuple #[.agg (av 3 (tl (mixF s t))), .string (opS s.k n0 t), .int .i64 0]) := by
 go_enter Tryz.func33, Tryz.ntmps33
 have M := Mem.start hL
 refine sR <| pN M 2 (.cells (av 3 (tl s)) 33) fun g1 u1 M => pN M 4 (.cells (av 3 (zq 3)) 33) fun g2 u2 M => rV 2 <| nT <| wp_seq <| rgh M [⟨g1, .cells (av 3 (tl s)) 33⟩, ⟨g2, .cells (av 3 (zq 3)) 33⟩] 11 fun u3 M => qV M 0 10 (pJ g1 2) <| qE M 1 11 0 2 <| qV M 3 13 (pJ g1) <| qE M 4 14 0 0 <| qV M 5 15 (.string t) <| qO 2 ?_
 refine ZC M 12 (fun w M => d_Nonce 0 w M.laid) fun u4 M => nT ?_
 refine ⟨M, ?_⟩
 refine qO 6 ?_
 refine ZC M 16 (fun w M => d_OpenA s.k n0 s.h t ⟨hk, n0_size⟩ (by omega) (by omega) h w M.laid) fun u5 M => nT ?_
 refine ⟨M, ?_⟩
 refine qV M 7 9 (.tuple #[.string (opS s.k n0 t), .int .i64 0]) <| qV M 8 17 (.string (opS s.k n0 t)) <| qV M 9 18 (.int .i64 0) <| qV M 10 7 (.string (opS s.k n0 t)) <| qZ ?_
 refine rV 1 <| nT <| au_then <| wp_seq <| sq <| cF <| wp_skip <| au_then <| sR <| pB M 23 0 <| rV 1 <| ZC M 25 (fun w M => d_mix s t (by omega) w M.laid) fun u6 M => rV 1 <| ZL M 1 3 (tl (mixF s t)) fun u7 M => rV 2 <| nT ?_
 refine wp_ret ?_
 exact bctt Tryz.results33 M 1 3 (tl (mixF s t)) (.string (opS s.k n0 t)) (.int .i64 0) ⟨rfl, below_grown M.old⟩
theorem d_openB (s : St) (t : Yb) (hs : s.h.size = 32) (hk : s.k.size = 32) (ht : t.size ≤ 4900) (h6 : 16 ≤ t.size) (h : ¬ tagOk s t) (w : World) (hL : Laid w)  : Cs 33 #[.agg (av 3 (tl s)), .string t] w (.tuple #[.agg (av 3 (tl s)), .string zb, .int .i64 100]) := by
 go_enter Tryz.func33, Tryz.ntmps33
 have M := Mem.start hL
 refine sR <| pN M 2 (.cells (av 3 (tl s)) 33) fun g1 u1 M => pN M 4 (.cells (av 3 (zq 3)) 33) fun g2 u2 M => rV 2 <| nT <| wp_seq <| rgh M [⟨g1, .cells (av 3 (tl s)) 33⟩, ⟨g2, .cells (av 3 (zq 3)) 33⟩] 11 fun u3 M => qV M 0 10 (pJ g1 2) <| qE M 1 11 0 2 <| qV M 3 13 (pJ g1) <| qE M 4 14 0 0 <| qV M 5 15 (.string t) <| qO 2 ?_
 refine ZC M 12 (fun w M => d_Nonce 0 w M.laid) fun u4 M => nT ?_
 refine ⟨M, ?_⟩
 refine qO 6 ?_
 refine ZC M 16 (fun w M => d_OpenB s.k n0 s.h t ⟨hk, n0_size⟩ (by omega) (by omega) h w M.laid) fun u5 M => nT ?_
 refine ⟨M, ?_⟩
 refine qV M 7 9 (.tuple #[.string zb, .int .i64 100]) <| qV M 8 17 (.string zb) <| qV M 9 18 (.int .i64 100) <| qV M 10 7 (.string zb) <| qZ ?_
 refine rV 1 <| nT <| au_then <| wp_seq <| sq <| cT <| sR <| pB M 21 0 <| rV 1 <| ZL M 1 3 (tl s) fun u6 M => rV 2 <| nT <| wp_ret <| au_then_ret ?_
 exact bctt Tryz.results33 M 1 3 (tl s) (.string zb) (.int .i64 100) ⟨rfl, below_grown M.old⟩
open Go.RowKit
theorem tS1_h (b e pr : Yb) : (tS1 b e pr).h.size = 32 := mixF_h (bS0 b pr) (puV e)
theorem tS2_h (b e pr : Yb) : (tS2 b e pr).h.size = 32 := tS1_h b e pr
theorem tS2_k (b e pr : Yb) : (tS2 b e pr).k.size = 32 := adN_k (tS1 b e pr) _
theorem tS3_h (a b e pr : Yb) : (tS3 a b e pr).h.size = 32 := mixF_h (tS2 b e pr) (tX1 a b e pr)
theorem tS4_h (a b e pr : Yb) : (tS4 a b e pr).h.size = 32 := tS3_h a b e pr
theorem tS4_k (a b e pr : Yb) : (tS4 a b e pr).k.size = 32 := adN_k (tS3 a b e pr) _
theorem tS1_c (b e pr : Yb) : (tS1 b e pr).c.size < 100000 := by
 show (Bh nameS).size < 100000
 rw [Bh_size]
 decide
theorem tS3_c (a b e pr : Yb) : (tS3 a b e pr).c.size < 100000 := by
 show (nxA _ _).size < 100000
 rw [nxA_size]
 decide
theorem rS1_h (b pr m : Yb) : (rS1 b pr m).h.size = 32 := mixF_h (rS0 b pr) (rE m)
theorem rS1_c (b pr m : Yb) : (rS1 b pr m).c.size < 100000 := by
 show (Bh nameS).size < 100000
 rw [Bh_size]
 decide
theorem uS2_h (b pr m : Yb) : (uS2 b pr m).h.size = 32 := rS1_h b pr m
theorem uS2_k (b pr m : Yb) : (uS2 b pr m).k.size = 32 := adN_k (rS1 b pr m) _
theorem uS3_h (b pr m : Yb) : (uS3 b pr m).h.size = 32 := mixF_h (uS2 b pr m) (rC1 m)
theorem uS3_c (b pr m : Yb) : (uS3 b pr m).c.size < 100000 := by
 show (nxA _ _).size < 100000
 rw [nxA_size]
 decide
theorem uS4_h (b pr m : Yb) : (uS4 b pr m).h.size = 32 := uS3_h b pr m
theorem uS4_k (b pr m : Yb) : (uS4 b pr m).k.size = 32 := adN_k (uS3 b pr m) _
theorem uF_size {b pr m : Yb} (h : 96 ≤ m.size) : (uF b pr m).size = 32 := by
 unfold uF
 rw [opS_size, rC1_size h]
theorem d_Begin (sa ob ep pr pl : Yb) (w : World) (hL : Laid w) : Calls Tryz.prog 11 #[.string sa, .string ob, .string ep, .string pr, .string pl] w fun r w' => Below w.heap.size w w' ∧ ((bgE sa ob ep pr pl ≠ 0 ∧ r = .returned (.tuple #[.agg (av 6 (zq 6)), .string zb, .int .i64 (bgE sa ob ep pr pl)])) ∨ (bgE sa ob ep pr pl = 0 ∧ r = .returned (.tuple #[.agg (av 6 (tm (tS5 sa ob ep pr pl) [sa, ep, ob])), .string (tMs sa ob ep pr pl), .int .i64 0]))) := by
 go_enter Tryz.func11, Tryz.ntmps11
 have M := Mem.start hL
 refine sR <| pN M 10 (.cells (av 6 (zq 6)) 35) fun g1 u1 M => rV 2 <| nT <| wp_seq <| sR <| rV 2 ?_
 by_cases c0 : (sa.size : Int) = 32
 ·refine wD 23 c0 <| rV 3 ?_
  by_cases c1 : (ob.size : Int) = 32
  ·refine wD 27 c1 <| rV 4 ?_
   by_cases c2 : (ep.size : Int) = 32
   ·refine wD 32 c2 <| rV 1 <| nT <| cF <| wp_skip <| au_then <| wp_seq <| sR <| rV 2 ?_
    by_cases c3 : 4096 < (pr.size : Int)
    ·refine wT 37 c3 <| rV 5 <| nT <| cT <| sR <| rV 1 <| ZL M 0 6 (zq 6) fun u2 M => rV 2 <| nT <| wp_ret <| au_then_ret ?_
     have e0 : bgE sa ob ep pr pl = 4 := by simp only [bgE, bS5_e, if_pos c0, if_pos c1, if_pos c2, if_pos c3]
     exact bctt Tryz.results11 M 0 6 (zq 6) (.string zb) (.int .i64 4) ⟨below_grown M.old, .inl ⟨by rw [e0]; decide, by rw [e0]⟩⟩
    ·refine wF 37 c3 <| rV 3 ?_
     by_cases c4 : 4096 < (pl.size : Int)
     ·refine wT 41 c4 <| rV 1 <| nT <| cT <| sR <| rV 1 <| ZL M 0 6 (zq 6) fun u2 M => rV 2 <| nT <| wp_ret <| au_then_ret ?_
      have e0 : bgE sa ob ep pr pl = 4 := by simp only [bgE, bS5_e, if_pos c0, if_pos c1, if_pos c2, if_neg c3, if_pos c4]
      exact bctt Tryz.results11 M 0 6 (zq 6) (.string zb) (.int .i64 4) ⟨below_grown M.old, .inl ⟨by rw [e0]; decide, by rw [e0]⟩⟩
     ·refine wF 41 c4 <| rV 1 <| nT <| cF <| wp_skip <| au_then <| sR <| rV 1 <| pD M 46 (.tuple #[.string (puV ep), .int .i64 0]) (fun w M => Mon.rpubL ep w M.laid (by omega)) fun u2 M => rV 5 <| nT <| sR <| rV 1 <| pD M 51 (.tuple #[.string (puV sa), .int .i64 0]) (fun w M => Mon.rpubL sa w M.laid (by omega)) fun u3 M => rV 5 <| nT ?_
      refine sR <| rV 2 <| ZC M 57 (fun w M => d_begin pr ob (by omega) (by omega) w M.laid) fun u4 M => rV 1 ?_
      refine pC M 59 28 #[.agg (av 3 (tl (bS0 ob pr))), .string (puV ep)] (.agg (av 3 (tl (tS1 ob ep pr)))) (fun w M => d_mix (bS0 ob pr) (puV ep) (by rw [show (bS0 ob pr).h.size = 32 from beginF_h _ _ _, puV_size]; decide) w M.laid) fun u5 M => ?_
      refine rV 2 ?_
      by_cases c5 : shN ep ob = 0
      ·refine pD M 62 (.tuple #[.agg (av 3 (tl (tS1 ob ep pr))), .int .i64 30]) (fun w M => d_addZ (tS1 ob ep pr) ep ob (by omega) (by omega) (tS1_c _ _ _) c5 w M.laid) fun u6 M => rV 3 <| pN M 17 (.cells (av 3 (zq 3)) 33) fun g2 u7 M => ZL M 1 3 (tl (tS1 ob ep pr)) fun u8 M => rV 1 <| nT <| wp_seq <| sq <| cT <| sR <| rV 2 <| ZL M 0 6 (zq 6) fun u9 M => rV 2 <| nT <| wp_ret <| au_then_ret ?_
       have e0 : bgE sa ob ep pr pl = 30 := by simp only [bgE, bS5_e, if_pos c0, if_pos c1, if_pos c2, if_neg c3, if_neg c4, if_pos c5]
       exact bctt Tryz.results11 M 0 6 (zq 6) (.string zb) (.int .i64 30) ⟨below_grown M.old, .inl ⟨by rw [e0]; decide, by rw [e0]⟩⟩
      ·refine pD M 62 (.tuple #[.agg (av 3 (tl (tS2 ob ep pr))), .int .i64 0]) (fun w M => d_addN (tS1 ob ep pr) ep ob (by omega) (by omega) (tS1_c _ _ _) c5 w M.laid) fun u6 M => rV 3 <| pN M 17 (.cells (av 3 (zq 3)) 33) fun g2 u7 M => ZL M 1 3 (tl (tS2 ob ep pr)) fun u8 M => rV 1 <| nT <| wp_seq <| sq <| cF <| wp_skip <| au_then <| sR <| pB M 70 1 <| rV 1 <| pD M 72 (.tuple #[.agg (av 3 (tl (tS3 sa ob ep pr))), .string (tX1 sa ob ep pr)]) (fun w M => d_seal (tS2 ob ep pr) (puV sa) (tS2_h _ _ _) (tS2_k _ _ _) (by rw [puV_size]; decide) w M.laid) fun u9 M => rV 3 ?_
       refine ZL M 1 3 (tl (tS3 sa ob ep pr)) fun u10 M => rV 1 <| nT ?_
       refine sR <| pB M 76 1 <| rV 2 ?_
       by_cases c6 : shN sa ob = 0
       ·refine pD M 79 (.tuple #[.agg (av 3 (tl (tS3 sa ob ep pr))), .int .i64 30]) (fun w M => d_addZ (tS3 sa ob ep pr) sa ob (by omega) (by omega) (tS3_c _ _ _ _) c6 w M.laid) fun u11 M => rV 3 <| ZL M 1 3 (tl (tS3 sa ob ep pr)) fun u12 M => rV 1 <| nT <| wp_seq <| sq <| cT <| sR <| rV 2 <| ZL M 0 6 (zq 6) fun u13 M => rV 2 <| nT <| wp_ret <| au_then_ret ?_
        have e0 : bgE sa ob ep pr pl = 30 := by simp only [bgE, bS5_e, if_pos c0, if_pos c1, if_pos c2, if_neg c3, if_neg c4, if_neg c5, if_pos c6]
        exact bctt Tryz.results11 M 0 6 (zq 6) (.string zb) (.int .i64 30) ⟨below_grown M.old, .inl ⟨by rw [e0]; decide, by rw [e0]⟩⟩
       ·refine pD M 79 (.tuple #[.agg (av 3 (tl (tS4 sa ob ep pr))), .int .i64 0]) (fun w M => d_addN (tS3 sa ob ep pr) sa ob (by omega) (by omega) (tS3_c _ _ _ _) c6 w M.laid) fun u11 M => rV 3 <| ZL M 1 3 (tl (tS4 sa ob ep pr)) fun u12 M => rV 1 <| nT <| wp_seq <| sq <| cF <| wp_skip <| au_then <| sR <| pB M 87 1 <| rV 1 <| pD M 89 (.tuple #[.agg (av 3 (tl (tS5 sa ob ep pr pl))), .string (tX2 sa ob ep pr pl)]) (fun w M => d_seal (tS4 sa ob ep pr) pl (tS4_h _ _ _ _) (tS4_k _ _ _ _) (by omega) w M.laid) fun u13 M => rV 3 <| ZL M 1 3 (tl (tS5 sa ob ep pr pl)) fun u14 M => ?_
        refine rV 1 <| nT <| sR <| pB M 92 1 <| rV 6 <| pH 99 (.string ((puV ep) ++ (tX1 sa ob ep pr))) (run_cat 9 9 _ _ rfl (puV ep) (tX1 sa ob ep pr) (by kernel_rfl) (by kernel_rfl) (by rw [puV_size, tX1_size]; decide)) <| rV 1 <| pH 101 (.string (((puV ep) ++ (tX1 sa ob ep pr)) ++ (tX2 sa ob ep pr pl))) (run_cat 9 9 _ _ rfl ((puV ep) ++ (tX1 sa ob ep pr)) (tX2 sa ob ep pr pl) (by kernel_rfl) (by kernel_rfl) (by rw [ByteArray.size_append, puV_size, tX1_size, tX2_size]; omega)) <| ZL M 0 6 (tm (tS5 sa ob ep pr pl) [sa, ep, ob]) fun u15 M => rV 2 <| nT <| wp_ret ?_
        have e0 : bgE sa ob ep pr pl = 0 := by simp only [bgE, bS5_e, if_pos c0, if_pos c1, if_pos c2, if_neg c3, if_neg c4, if_neg c5, if_neg c6]
        exact bctt Tryz.results11 M 0 6 (tm (tS5 sa ob ep pr pl) [sa, ep, ob]) (.string (((puV ep) ++ (tX1 sa ob ep pr)) ++ (tX2 sa ob ep pr pl))) (.int .i64 0) ⟨below_grown M.old, .inr ⟨e0, rfl⟩⟩
   ·refine wU 32 c2 <| rV 1 <| nT <| cT <| sR <| rV 1 <| ZL M 0 6 (zq 6) fun u2 M => rV 2 <| nT <| wp_ret <| au_then_ret ?_
    have e0 : bgE sa ob ep pr pl = 2 := by simp only [bgE, bS5_e, if_pos c0, if_pos c1, if_neg c2]
    exact bctt Tryz.results11 M 0 6 (zq 6) (.string zb) (.int .i64 2) ⟨below_grown M.old, .inl ⟨by rw [e0]; decide, by rw [e0]⟩⟩
  ·refine wU 27 c1 <| rV 6 <| nT <| cT <| sR <| rV 1 <| ZL M 0 6 (zq 6) fun u2 M => rV 2 <| nT <| wp_ret <| au_then_ret ?_
   have e0 : bgE sa ob ep pr pl = 2 := by simp only [bgE, bS5_e, if_pos c0, if_neg c1]
   exact bctt Tryz.results11 M 0 6 (zq 6) (.string zb) (.int .i64 2) ⟨below_grown M.old, .inl ⟨by rw [e0]; decide, by rw [e0]⟩⟩
 ·refine wU 23 c0 <| rV 10 <| nT <| cT <| sR <| rV 1 <| ZL M 0 6 (zq 6) fun u2 M => rV 2 <| nT <| wp_ret <| au_then_ret ?_
  have e0 : bgE sa ob ep pr pl = 2 := by simp only [bgE, bS5_e, if_neg c0]
  exact bctt Tryz.results11 M 0 6 (zq 6) (.string zb) (.int .i64 2) ⟨below_grown M.old, .inl ⟨by rw [e0]; decide, by rw [e0]⟩⟩
theorem d_Read (sb pr m : Yb) (w : World) (hL : Laid w) : Calls Tryz.prog 14 #[.string sb, .string pr, .string m] w fun r w' => Below w.heap.size w w' ∧ ((rdE sb pr m ≠ 0 ∧ r = .returned (.tuple #[.agg (av 5 (zq 5)), .agg (av 5 (zq 5)), .int .i64 (rdE sb pr m)])) ∨ (rdE sb pr m = 0 ∧ r = .returned (.tuple #[.agg (av 5 (tm (uS5 sb pr m) [uF sb pr m, rE m])), .agg (av 5 (sQ [uF sb pr m, uP sb pr m, zb, zb, zb])), .int .i64 0]))) := by
 go_enter Tryz.func14, Tryz.ntmps14
 have M := Mem.start hL
 refine sR <| pN M 6 (.cells (av 5 (zq 5)) 45) fun g1 u1 M => pN M 7 (.cells (av 5 (zq 5)) 41) fun g2 u2 M => rV 1 <| nT <| wp_seq <| sR <| rV 2 ?_
 by_cases c0 : (sb.size : Int) = 32
 ·refine wD 18 c0 <| nT <| cF <| wp_skip <| au_then <| wp_seq <| sR <| rV 2 ?_
  by_cases c1 : 4096 < (pr.size : Int)
  ·refine wT 23 c1 <| rV 5 <| nT <| cT <| sR <| rV 2 <| ZL M 0 5 (zq 5) fun u3 M => ZL M 1 5 (zq 5) fun u4 M => rV 1 <| nT <| wp_ret <| au_then_ret ?_
   have e0 : rdE sb pr m = 4 := by simp only [rdE, rS5_e, if_pos c0, if_pos c1]
   exact bcct Tryz.results14 M 0 5 (zq 5) 1 5 (zq 5) (.int .i64 4) ⟨below_grown M.old, .inl ⟨by rw [e0]; decide, by rw [e0]⟩⟩
  ·refine wF 23 c1 <| rV 3 ?_
   by_cases c2 : 4192 < (m.size : Int)
   ·refine wT 27 c2 <| rV 1 <| nT <| cT <| sR <| rV 2 <| ZL M 0 5 (zq 5) fun u3 M => ZL M 1 5 (zq 5) fun u4 M => rV 1 <| nT <| wp_ret <| au_then_ret ?_
    have e0 : rdE sb pr m = 4 := by simp only [rdE, rS5_e, if_pos c0, if_neg c1, if_pos c2]
    exact bcct Tryz.results14 M 0 5 (zq 5) 1 5 (zq 5) (.int .i64 4) ⟨below_grown M.old, .inl ⟨by rw [e0]; decide, by rw [e0]⟩⟩
   ·refine wF 27 c2 <| rV 1 <| nT <| cF <| wp_skip <| au_then <| wp_seq <| sR <| rV 2 ?_
    by_cases c3 : (m.size : Int) < 96
    ·refine wT 33 c3 <| nT <| cT <| sR <| rV 2 <| ZL M 0 5 (zq 5) fun u3 M => ZL M 1 5 (zq 5) fun u4 M => rV 1 <| nT <| wp_ret <| au_then_ret ?_
     have e0 : rdE sb pr m = 7 := by simp only [rdE, rS5_e, if_pos c0, if_neg c1, if_neg c2, if_pos c3]
     exact bcct Tryz.results14 M 0 5 (zq 5) 1 5 (zq 5) (.int .i64 7) ⟨below_grown M.old, .inl ⟨by rw [e0]; decide, by rw [e0]⟩⟩
    ·refine wF 33 c3 <| nT <| cF <| wp_skip <| au_then <| sR <| rV 1 <| pH 37 (.string (rE m)) (run_strh 9 Tryz.underlying9 _ _ rfl m (by kernel_rfl) .i64 32 (by kernel_rfl) (by omega) _ rfl) <| rV 1 <| nT <| sR <| rV 1 <| pD M 40 (.tuple #[.string (puV sb), .int .i64 0]) (fun w M => Mon.rpubL sb w M.laid (by omega)) fun u3 M => rV 5 <| nT <| sR ?_
     refine rV 2 <| ZC M 46 (fun w M => d_begin pr (puV sb) (by omega) (by rw [puV_size]; decide) w M.laid) fun u4 M => rV 1 ?_
     refine pC M 48 28 #[.agg (av 3 (tl (rS0 sb pr))), .string (rE m)] (.agg (av 3 (tl (rS1 sb pr m)))) (fun w M => d_mix (rS0 sb pr) (rE m) (by rw [show (rS0 sb pr).h.size = 32 from beginF_h _ _ _, rE_size (by omega)]; decide) w M.laid) fun u5 M => ?_
     refine rV 2 ?_
     by_cases c4 : shN sb (rE m) = 0
     ·refine pD M 51 (.tuple #[.agg (av 3 (tl (rS1 sb pr m))), .int .i64 30]) (fun w M => d_addZ (rS1 sb pr m) sb (rE m) (by omega) (rE_size (by omega)) (rS1_c _ _ _) c4 w M.laid) fun u6 M => rV 3 <| pN M 12 (.cells (av 3 (zq 3)) 33) fun g3 u7 M => ZL M 2 3 (tl (rS1 sb pr m)) fun u8 M => rV 1 <| nT <| wp_seq <| sq <| cT <| sR <| rV 3 <| ZL M 0 5 (zq 5) fun u9 M => ZL M 1 5 (zq 5) fun u10 M => rV 1 <| nT <| wp_ret ?_
      refine au_then_ret ?_
      have e0 : rdE sb pr m = 30 := by simp only [rdE, rS5_e, if_pos c0, if_neg c1, if_neg c2, if_neg c3, if_pos c4]
      exact bcct Tryz.results14 M 0 5 (zq 5) 1 5 (zq 5) (.int .i64 30) ⟨below_grown M.old, .inl ⟨by rw [e0]; decide, by rw [e0]⟩⟩
     ·refine pD M 51 (.tuple #[.agg (av 3 (tl (uS2 sb pr m))), .int .i64 0]) (fun w M => d_addN (rS1 sb pr m) sb (rE m) (by omega) (rE_size (by omega)) (rS1_c _ _ _) c4 w M.laid) fun u6 M => rV 3 <| pN M 12 (.cells (av 3 (zq 3)) 33) fun g3 u7 M => ZL M 2 3 (tl (uS2 sb pr m)) fun u8 M => rV 1 <| nT <| wp_seq <| sq <| cF <| wp_skip <| au_then <| wp_seq <| rgh M [⟨g1, .cells (av 5 (zq 5)) 45⟩, ⟨g2, .cells (av 5 (zq 5)) 41⟩] 10 fun u9 M => ?_
      have qM := M.drop (jC (.cons_cons _ (jK (.slnil))))
      refine qV qM 1 61 (.string m) <| qH qM 2 62 (.string (rC1 m)) (fun w _ => (run_strlh 9 Tryz.underlying9 _ _ _ rfl m (by kernel_rfl) .i64 .i64 32 80 (by kernel_rfl) (by kernel_rfl) (by omega) (by omega)) w) <| qO 0 ?_
      refine pB M 60 2 <| nT ?_
      refine ⟨(M.drop (jC (.cons_cons _ (jK (.slnil))))), ?_⟩
      refine qO 3 ?_
      by_cases c5 : tagOk (uS2 sb pr m) (rC1 m)
      ·refine pD M 63 (.tuple #[.agg (av 3 (tl (uS3 sb pr m))), .string (uF sb pr m), .int .i64 0]) (fun w M => d_openA (uS2 sb pr m) (rC1 m) (uS2_h _ _ _) (uS2_k _ _ _) (by rw [rC1_size (by omega)]; omega) (by rw [rC1_size (by omega)]; omega) c5 w M.laid) fun u10 M => ?_
       refine nT ?_
       refine ⟨(M.drop (jC (.cons_cons _ (jK (.slnil))))), ?_⟩
       have qM := M.drop (jC (.cons_cons _ (jK (.slnil))))
       refine qV qM 4 59 (.tuple #[.agg (av 3 (tl (uS3 sb pr m))), .string (uF sb pr m), .int .i64 0]) <| qV qM 5 64 (.agg (av 3 (tl (uS3 sb pr m)))) <| qV qM 6 65 (.string (uF sb pr m)) <| qV qM 7 66 (.int .i64 0) <| qO 8 ?_
       refine ZL M 2 3 (tl (uS3 sb pr m)) fun u11 M => nT ?_
       refine ⟨(M.drop (jC (.cons_cons _ (jK (.slnil))))), ?_⟩
       refine qV (M.drop (jC (.cons_cons _ (jK (.slnil))))) 9 14 (.string (uF sb pr m)) <| qZ ?_
       refine rV 1 <| nT <| au_then <| wp_seq <| sq <| cF <| wp_skip <| au_then <| sR <| pB M 73 2 <| rV 2 ?_
       by_cases c6 : shN sb (uF sb pr m) = 0
       ·refine pD M 76 (.tuple #[.agg (av 3 (tl (uS3 sb pr m))), .int .i64 30]) (fun w M => d_addZ (uS3 sb pr m) sb (uF sb pr m) (by omega) (uF_size (by omega)) (uS3_c _ _ _) c6 w M.laid) fun u12 M => rV 3 <| ZL M 2 3 (tl (uS3 sb pr m)) fun u13 M => rV 1 <| nT <| wp_seq <| sq <| cT <| sR <| rV 3 <| ZL M 0 5 (zq 5) fun u14 M => ZL M 1 5 (zq 5) fun u15 M => rV 1 <| nT <| wp_ret <| au_then_ret ?_
        have e0 : rdE sb pr m = 30 := by simp only [rdE, rS5_e, if_pos c0, if_neg c1, if_neg c2, if_neg c3, if_neg c4, if_pos c5, if_pos c6]
        exact bcct Tryz.results14 M 0 5 (zq 5) 1 5 (zq 5) (.int .i64 30) ⟨below_grown M.old, .inl ⟨by rw [e0]; decide, by rw [e0]⟩⟩
       ·refine pD M 76 (.tuple #[.agg (av 3 (tl (uS4 sb pr m))), .int .i64 0]) (fun w M => d_addN (uS3 sb pr m) sb (uF sb pr m) (by omega) (uF_size (by omega)) (uS3_c _ _ _) c6 w M.laid) fun u12 M => rV 3 <| ZL M 2 3 (tl (uS4 sb pr m)) fun u13 M => rV 1 <| nT <| wp_seq <| sq <| cF <| wp_skip <| au_then <| wp_seq <| rgh M [⟨g1, .cells (av 5 (zq 5)) 45⟩, ⟨g2, .cells (av 5 (zq 5)) 41⟩] 10 fun u14 M => ?_
        have qM := M.drop (jC (.cons_cons _ (jK (.slnil))))
        refine qV qM 1 86 (.string m) <| qH qM 2 87 (.string (rC2 m)) (fun w _ => (run_strl 9 Tryz.underlying9 _ _ rfl m (by kernel_rfl) .i64 80 (by kernel_rfl) (by omega) _ rfl) w) <| qO 0 ?_
        refine pB M 85 2 <| nT ?_
        refine ⟨(M.drop (jC (.cons_cons _ (jK (.slnil))))), ?_⟩
        refine qO 3 ?_
        by_cases c7 : tagOk (uS4 sb pr m) (rC2 m)
        ·refine pD M 88 (.tuple #[.agg (av 3 (tl (uS5 sb pr m))), .string (uP sb pr m), .int .i64 0]) (fun w M => d_openA (uS4 sb pr m) (rC2 m) (uS4_h _ _ _) (uS4_k _ _ _) (by rw [rC2_size (by omega)]; omega) (by rw [rC2_size (by omega)]; omega) c7 w M.laid) fun u15 M => ?_
         refine nT ?_
         refine ⟨(M.drop (jC (.cons_cons _ (jK (.slnil))))), ?_⟩
         have qM := M.drop (jC (.cons_cons _ (jK (.slnil))))
         refine qV qM 4 84 (.tuple #[.agg (av 3 (tl (uS5 sb pr m))), .string (uP sb pr m), .int .i64 0]) <| qV qM 5 89 (.agg (av 3 (tl (uS5 sb pr m)))) <| qV qM 6 90 (.string (uP sb pr m)) <| qV qM 7 91 (.int .i64 0) <| qO 8 ?_
         refine ZL M 2 3 (tl (uS5 sb pr m)) fun u16 M => nT ?_
         refine ⟨(M.drop (jC (.cons_cons _ (jK (.slnil))))), ?_⟩
         refine qV (M.drop (jC (.cons_cons _ (jK (.slnil))))) 9 15 (.string (uP sb pr m)) <| qZ ?_
         refine rV 1 <| nT <| au_then <| wp_seq <| sq <| cF <| wp_skip <| au_then <| sR <| pB M 97 2 <| rV 6 <| ZL M 0 5 (tm (uS5 sb pr m) [uF sb pr m, rE m]) fun u17 M => ZL M 1 5 (sQ [uF sb pr m, uP sb pr m, zb, zb, zb]) fun u18 M => rV 1 <| nT <| wp_ret ?_
         have e0 : rdE sb pr m = 0 := by simp only [rdE, rS5_e, if_pos c0, if_neg c1, if_neg c2, if_neg c3, if_neg c4, if_pos c5, if_neg c6, if_pos c7]
         exact bcct Tryz.results14 M 0 5 (tm (uS5 sb pr m) [uF sb pr m, rE m]) 1 5 (sQ [uF sb pr m, uP sb pr m, zb, zb, zb]) (.int .i64 0) ⟨below_grown M.old, .inr ⟨e0, rfl⟩⟩
        ·refine pD M 88 (.tuple #[.agg (av 3 (tl (uS4 sb pr m))), .string zb, .int .i64 100]) (fun w M => d_openB (uS4 sb pr m) (rC2 m) (uS4_h _ _ _) (uS4_k _ _ _) (by rw [rC2_size (by omega)]; omega) (by rw [rC2_size (by omega)]; omega) c7 w M.laid) fun u15 M => ?_
         refine nT ?_
         refine ⟨(M.drop (jC (.cons_cons _ (jK (.slnil))))), ?_⟩
         have qM := M.drop (jC (.cons_cons _ (jK (.slnil))))
         refine qV qM 4 84 (.tuple #[.agg (av 3 (tl (uS4 sb pr m))), .string zb, .int .i64 100]) <| qV qM 5 89 (.agg (av 3 (tl (uS4 sb pr m)))) <| qV qM 6 90 (.string zb) <| qV qM 7 91 (.int .i64 100) <| qO 8 ?_
         refine ZL M 2 3 (tl (uS4 sb pr m)) fun u16 M => nT ?_
         refine ⟨(M.drop (jC (.cons_cons _ (jK (.slnil))))), ?_⟩
         refine qV (M.drop (jC (.cons_cons _ (jK (.slnil))))) 9 15 (.string zb) <| qZ ?_
         refine rV 1 <| nT <| au_then <| wp_seq <| sq <| cT <| sR <| rV 3 <| ZL M 0 5 (zq 5) fun u17 M => ZL M 1 5 (zq 5) fun u18 M => rV 1 <| nT <| wp_ret <| au_then_ret ?_
         have e0 : rdE sb pr m = 100 := by simp only [rdE, rS5_e, if_pos c0, if_neg c1, if_neg c2, if_neg c3, if_neg c4, if_pos c5, if_neg c6, if_neg c7]
         exact bcct Tryz.results14 M 0 5 (zq 5) 1 5 (zq 5) (.int .i64 100) ⟨below_grown M.old, .inl ⟨by rw [e0]; decide, by rw [e0]⟩⟩
      ·refine pD M 63 (.tuple #[.agg (av 3 (tl (uS2 sb pr m))), .string zb, .int .i64 100]) (fun w M => d_openB (uS2 sb pr m) (rC1 m) (uS2_h _ _ _) (uS2_k _ _ _) (by rw [rC1_size (by omega)]; omega) (by rw [rC1_size (by omega)]; omega) c5 w M.laid) fun u10 M => ?_
       refine nT ?_
       refine ⟨(M.drop (jC (.cons_cons _ (jK (.slnil))))), ?_⟩
       have qM := M.drop (jC (.cons_cons _ (jK (.slnil))))
       refine qV qM 4 59 (.tuple #[.agg (av 3 (tl (uS2 sb pr m))), .string zb, .int .i64 100]) <| qV qM 5 64 (.agg (av 3 (tl (uS2 sb pr m)))) <| qV qM 6 65 (.string zb) <| qV qM 7 66 (.int .i64 100) <| qO 8 ?_
       refine ZL M 2 3 (tl (uS2 sb pr m)) fun u11 M => nT ?_
       refine ⟨(M.drop (jC (.cons_cons _ (jK (.slnil))))), ?_⟩
       refine qV (M.drop (jC (.cons_cons _ (jK (.slnil))))) 9 14 (.string zb) <| qZ ?_
       refine rV 1 <| nT <| au_then <| wp_seq <| sq <| cT <| sR <| rV 3 <| ZL M 0 5 (zq 5) fun u12 M => ZL M 1 5 (zq 5) fun u13 M => rV 1 <| nT <| wp_ret <| au_then_ret ?_
       have e0 : rdE sb pr m = 100 := by simp only [rdE, rS5_e, if_pos c0, if_neg c1, if_neg c2, if_neg c3, if_neg c4, if_neg c5]
       exact bcct Tryz.results14 M 0 5 (zq 5) 1 5 (zq 5) (.int .i64 100) ⟨below_grown M.old, .inl ⟨by rw [e0]; decide, by rw [e0]⟩⟩
 ·refine wU 18 c0 <| nT <| cT <| sR <| rV 2 <| ZL M 0 5 (zq 5) fun u3 M => ZL M 1 5 (zq 5) fun u4 M => rV 1 <| nT <| wp_ret <| au_then_ret ?_
  have e0 : rdE sb pr m = 2 := by simp only [rdE, rS5_e, if_neg c0]
  exact bcct Tryz.results14 M 0 5 (zq 5) 1 5 (zq 5) (.int .i64 2) ⟨below_grown M.old, .inl ⟨by rw [e0]; decide, by rw [e0]⟩⟩
open Go.RowKit
theorem mixF_cs {s : St} {t : Yb} (h : s.c.size < 100000) : (mixF s t).c.size < 100000 := by
 unfold mixF
 exact h
theorem vS2_c {s : St} (x e : Yb) : (vS2 s x e).c.size < 100000 := by
 show (nxA _ _).size < 100000
 rw [nxA_size]
 decide
theorem vS3_h {s : St} (f x e : Yb) : (vS3 s f x e).h.size = 32 := by
 show (mixF s (puV e)).h.size = 32
 exact mixF_h _ _
theorem vS3_k {s : St} (f x e : Yb) : (vS3 s f x e).k.size = 32 := adN_k (vS2 s x e) _
theorem vS4_c {s : St} (f x e pl : Yb) : (vS4 s f x e pl).c.size < 100000 := by
 show (nxA _ _).size < 100000
 rw [nxA_size]
 decide
theorem gS2_c {s : St} (e r : Yb) : (gS2 s e r).c.size < 100000 := by
 show (nxA _ _).size < 100000
 rw [nxA_size]
 decide
theorem gS3_h {s : St} (a e r : Yb) : (gS3 s a e r).h.size = 32 := by
 show (mixF s (rE r)).h.size = 32
 exact mixF_h _ _
theorem gS3_k {s : St} (a e r : Yb) : (gS3 s a e r).k.size = 32 := adN_k (gS2 s e r) _
theorem gS4_c {s : St} (a e r : Yb) : (gS4 s a e r).c.size < 100000 := by
 show (nxA _ _).size < 100000
 rw [nxA_size]
 decide
theorem d_Answer (s : St) (f x ep pl : Yb) (h0 : s.e = 0) (hs : s.h.size = 32) (hc : s.c.size < 100000) (hf : f.size = 32) (hx : x.size = 32) (w : World) (hL : Laid w) : Calls Tryz.prog 16 #[.agg (av 5 (tm s [f, x])), .string ep, .string pl] w fun r w' => Below w.heap.size w w' ∧ ((anE s f x ep pl ≠ 0 ∧ r = .returned (.tuple #[.string zb, .agg (av 5 (zq 5)), .int .i64 (anE s f x ep pl)])) ∨ (anE s f x ep pl = 0 ∧ r = .returned (.tuple #[.string (vRp s f x ep pl), .agg (av 5 (sQ [f, zb, nxB (vS4 s f x ep pl).c ⟨#[]⟩, nxA (vS4 s f x ep pl).c ⟨#[]⟩, (vS4 s f x ep pl).h])), .int .i64 0]))) := by
 go_enter Tryz.func16, Tryz.ntmps16
 have M := Mem.start hL
 refine sR <| pN M 3 (.cells (av 5 (tm s [f, x])) 45) fun g1 u1 M => rV 1 <| pN M 7 (.cells (av 5 (zq 5)) 41) fun g2 u2 M => rV 1 <| nT <| wp_seq <| sR <| rV 2 ?_
 by_cases c0 : (ep.size : Int) = 32
 ·refine wD 18 c0 <| nT <| cF <| wp_skip <| au_then <| wp_seq <| sR <| rV 2 ?_
  by_cases c1 : 4096 < (pl.size : Int)
  ·refine wT 22 c1 <| nT <| cT <| sR <| rV 2 <| ZL M 1 5 (zq 5) fun u3 M => rV 1 <| nT <| wp_ret <| au_then_ret ?_
   have e0 : anE s f x ep pl = 4 := by simp only [anE, aS4_e _ _ _ _ h0, if_pos c0, if_pos c1]
   exact btct Tryz.results16 M (.string zb) 1 5 (zq 5) (.int .i64 4) ⟨below_grown M.old, .inl ⟨by rw [e0]; decide, by rw [e0]⟩⟩
  ·refine wF 22 c1 <| nT <| cF <| wp_skip <| au_then <| sR <| rV 1 ?_
   by_cases c2 : shN ep x = 0
   ·refine pD M 26 (.tuple #[.string (puV ep), .int .i64 0]) (fun w M => Mon.rpubL ep w M.laid (by omega)) fun u3 M => rV 5 <| nT <| wp_seq <| rgh M [⟨g1, .cells (av 5 (tm s [f, x])) 45⟩, ⟨g2, .cells (av 5 (zq 5)) 41⟩] 13 fun u4 M => qV M 0 30 (pJ g1) <| hl_load M 1 rfl (by decide) (by kernel_rfl) (by kernel_rfl) (want_no rfl) (some 31) rfl 33 _ rfl 0 g1 0 (by kernel_rfl) 5 45 (tm s [f, x]) rfl 3 (tl s) (part_ls _ 0 3 _ rfl) (by decide) _ Tryz.underlying33 rfl inz33 <| qV M 2 32 (.string (puV ep)) <| qV M 4 34 (.string ep) <| qV M 5 35 (pJ g1 4) <| qE M 6 36 0 4 <| hl_name ?_
    intro H hA hB
    have s6 : ∀ (a : Act) (l : Array Bool) (g3 : Nat) (w0 : World), a = (fm ([.agg (av 5 (tm s [f, x])), .string ep, .string pl, pJ g1] ++ vr (slt a) 4 2 ++ [.string zb, pJ g2, .int .i64 0, .string (puV ep), slt a 10, pJ g3] ++ vr (slt a) 12 17 ++ [.tuple #[.agg (av 3 (tl (mixF s (puV ep)))), .int .i64 30], pJ g1, .agg (av 3 (tl s)), .string (puV ep), .agg (av 3 (tl (mixF s (puV ep)))), .string ep, pJ g1 4, .string x, .tuple #[.agg (av 3 (tl (mixF s (puV ep)))), .int .i64 30], .agg (av 3 (tl (mixF s (puV ep)))), .int .i64 30] ++ vr (slt a) 40 42)) → l = #[true, true, true, true, true, true, true, true, true, true, true, true, true, false] → Mem ⟨w, []⟩ [⟨g1, .cells (av 5 (tm s [f, x])) 45⟩, ⟨g2, .cells (av 5 (zq 5)) 41⟩, ⟨g3, .cells (av 3 (tl (mixF s (puV ep)))) 33⟩] w0 → H 1 l a w0 := by
     intro a l g3  u0 ha hl M
     generalize slt a = v at ha
     subst ha hl
     refine hB _ _ _ _ <| qZ ?_
     refine rV 1 <| nT <| au_then <| wp_seq <| sq <| cT <| sR <| rV 3 <| ZL M 1 5 (zq 5) fun u9 M => rV 1 <| nT <| wp_ret <| au_then_ret ?_
     have e0 : anE s f x ep pl = 30 := by simp only [anE, aS4_e _ _ _ _ h0, if_pos c0, if_neg c1, if_pos c2]
     exact btct Tryz.results16 M (.string zb) 1 5 (zq 5) (.int .i64 30) ⟨below_grown M.old, .inl ⟨by rw [e0]; decide, by rw [e0]⟩⟩
    have s5 : ∀ (a : Act) (l : Array Bool) (g3 : Nat) (w0 : World), a = (fm ([.agg (av 5 (tm s [f, x])), .string ep, .string pl, pJ g1] ++ vr (slt a) 4 2 ++ [.string zb, pJ g2, .int .i64 0, .string (puV ep), slt a 10, pJ g3] ++ vr (slt a) 12 17 ++ [.tuple #[.agg (av 3 (tl (mixF s (puV ep)))), .int .i64 30], pJ g1, .agg (av 3 (tl s)), .string (puV ep), .agg (av 3 (tl (mixF s (puV ep)))), .string ep, pJ g1 4, .string x, .tuple #[.agg (av 3 (tl (mixF s (puV ep)))), .int .i64 30], .agg (av 3 (tl (mixF s (puV ep)))), .int .i64 30] ++ vr (slt a) 40 42)) → l = #[true, true, true, true, true, true, true, true, true, true, true, true, false, false] → Mem ⟨w, []⟩ [⟨g1, .cells (av 5 (tm s [f, x])) 45⟩, ⟨g2, .cells (av 5 (zq 5)) 41⟩, ⟨g3, .cells (av 3 (zq 3)) 33⟩] w0 → H 2 l a w0 := by
     intro a l g3  u0 ha hl M
     generalize slt a = v at ha
     subst ha hl
     refine hB _ _ _ _ <| qO 12 ?_
     refine ZL M 2 3 (tl (mixF s (puV ep))) fun u8 M => nT ?_
     refine ⟨(M.drop (jC (.cons_cons _ (jK (.slnil))))), ?_⟩
     exact hA _ _ _ _ (s6 _ _ g3 _ (by kernel_rfl) (by kernel_rfl) M)
    have s3 : ∀ (a : Act) (l : Array Bool) (w0 : World), a = (fm ([.agg (av 5 (tm s [f, x])), .string ep, .string pl, pJ g1] ++ vr (slt a) 4 2 ++ [.string zb, pJ g2, .int .i64 0, .string (puV ep)] ++ vr (slt a) 10 19 ++ [.tuple #[.agg (av 3 (tl (mixF s (puV ep)))), .int .i64 30], pJ g1, .agg (av 3 (tl s)), .string (puV ep), .agg (av 3 (tl (mixF s (puV ep)))), .string ep, pJ g1 4, .string x, .tuple #[.agg (av 3 (tl (mixF s (puV ep)))), .int .i64 30], .agg (av 3 (tl (mixF s (puV ep)))), .int .i64 30] ++ vr (slt a) 40 42)) → l = #[true, true, true, true, true, true, true, true, true, true, true, false, false, false] → Mem ⟨w, []⟩ [⟨g1, .cells (av 5 (tm s [f, x])) 45⟩, ⟨g2, .cells (av 5 (zq 5)) 41⟩] w0 → H 3 l a w0 := by
     intro a l   u0 ha hl M
     generalize slt a = v at ha
     subst ha hl
     refine hB _ _ _ _ <| qO 11 ?_
     refine pN M 11 (.cells (av 3 (zq 3)) 33) fun g3 u7 M => nT ?_
     refine ⟨(M.drop (jC (.cons_cons _ (jK (.slnil))))), ?_⟩
     exact hA _ _ _ _ (s5 _ _ g3 _ (by kernel_rfl) (by kernel_rfl) M)
    have s4 : ∀ (a : Act) (l : Array Bool) (g3 : Nat) (w0 : World), a = (fm ([.agg (av 5 (tm s [f, x])), .string ep, .string pl, pJ g1] ++ vr (slt a) 4 2 ++ [.string zb, pJ g2, .int .i64 0, .string (puV ep), slt a 10, pJ g3] ++ vr (slt a) 12 18 ++ [pJ g1, .agg (av 3 (tl s)), .string (puV ep), .agg (av 3 (tl (mixF s (puV ep)))), .string ep, pJ g1 4, .string x] ++ vr (slt a) 37 45)) → l = #[true, true, true, true, true, true, true, false, false, false, false, true, false, false] → Mem ⟨w, []⟩ [⟨g1, .cells (av 5 (tm s [f, x])) 45⟩, ⟨g2, .cells (av 5 (zq 5)) 41⟩, ⟨g3, .cells (av 3 (zq 3)) 33⟩] w0 → H 6 l a w0 := by
     intro a l g3  u0 ha hl M
     generalize slt a = v at ha
     subst ha hl
     refine hB _ _ _ _ <| qO 7 ?_
     refine ZC M 37 (fun w M => d_addZ (mixF s (puV ep)) ep x (by omega) (by omega) (mixF_cs hc) c2 w M.laid) fun u7 M => nT ?_
     refine ⟨(M.drop (jC (.cons_cons _ (jK (.slnil))))), ?_⟩
     have qM := M.drop (jC (.cons_cons _ (jK (.slnil))))
     refine qV qM 8 29 (.tuple #[.agg (av 3 (tl (mixF s (puV ep)))), .int .i64 30]) <| qV qM 9 38 (.agg (av 3 (tl (mixF s (puV ep))))) <| qV qM 10 39 (.int .i64 30) ?_
     exact hA _ _ _ _ (s5 _ _ g3 _ (by kernel_rfl) (by kernel_rfl) M)
    have s1 : ∀ (a : Act) (l : Array Bool) (w0 : World), a = (fm ([.agg (av 5 (tm s [f, x])), .string ep, .string pl, pJ g1] ++ vr (slt a) 4 2 ++ [.string zb, pJ g2, .int .i64 0, .string (puV ep)] ++ vr (slt a) 10 20 ++ [pJ g1, .agg (av 3 (tl s)), .string (puV ep), .agg (av 3 (tl (mixF s (puV ep)))), .string ep, pJ g1 4, .string x] ++ vr (slt a) 37 45)) → l = #[true, true, true, true, true, true, true, false, false, false, false, false, false, false] → Mem ⟨w, []⟩ [⟨g1, .cells (av 5 (tm s [f, x])) 45⟩, ⟨g2, .cells (av 5 (zq 5)) 41⟩] w0 → H 7 l a w0 := by
     intro a l   u0 ha hl M
     generalize slt a = v at ha
     subst ha hl
     refine hB _ _ _ _ ?_
     refine hl_two 7 11 (by decide) (by decide) (by kernel_rfl) rfl rfl ?_ ?_
     ·refine ZC M 37 (fun w M => d_addZ (mixF s (puV ep)) ep x (by omega) (by omega) (mixF_cs hc) c2 w M.laid) fun u6 M => nT ?_
      refine ⟨M, ?_⟩
      refine qV M 8 29 (.tuple #[.agg (av 3 (tl (mixF s (puV ep)))), .int .i64 30]) <| qV M 9 38 (.agg (av 3 (tl (mixF s (puV ep))))) <| qV M 10 39 (.int .i64 30) ?_
      exact hA _ _ _ _ (s3 _ _  _ (by kernel_rfl) (by kernel_rfl) M)
     ·refine pN M 11 (.cells (av 3 (zq 3)) 33) fun g3 u6 M => nT ?_
      refine ⟨(M.drop (jC (.cons_cons _ (jK (.slnil))))), ?_⟩
      exact hA _ _ _ _ (s4 _ _ g3 _ (by kernel_rfl) (by kernel_rfl) M)
    have s2 : ∀ (a : Act) (l : Array Bool) (g3 : Nat) (w0 : World), a = (fm ([.agg (av 5 (tm s [f, x])), .string ep, .string pl, pJ g1] ++ vr (slt a) 4 2 ++ [.string zb, pJ g2, .int .i64 0, .string (puV ep), slt a 10, pJ g3] ++ vr (slt a) 12 18 ++ [pJ g1, .agg (av 3 (tl s)), .string (puV ep), slt a 33, .string ep, pJ g1 4, .string x] ++ vr (slt a) 37 45)) → l = #[true, true, true, false, true, true, true, false, false, false, false, true, false, false] → Mem ⟨w, []⟩ [⟨g1, .cells (av 5 (tm s [f, x])) 45⟩, ⟨g2, .cells (av 5 (zq 5)) 41⟩, ⟨g3, .cells (av 3 (zq 3)) 33⟩] w0 → H 7 l a w0 := by
     intro a l g3  u0 ha hl M
     generalize slt a = v at ha
     subst ha hl
     refine hB _ _ _ _ <| qO 3 ?_
     refine ZC M 33 (fun w M => d_mix s (puV ep) (by rw [hs, puV_size]; decide) w M.laid) fun u6 M => nT ?_
     refine ⟨(M.drop (jC (.cons_cons _ (jK (.slnil))))), ?_⟩
     exact hA _ _ _ _ (s4 _ _ g3 _ (by kernel_rfl) (by kernel_rfl) M)
    have s0 : ∀ (a : Act) (l : Array Bool) (w0 : World), a = (fm ([.agg (av 5 (tm s [f, x])), .string ep, .string pl, pJ g1] ++ vr (slt a) 4 2 ++ [.string zb, pJ g2, .int .i64 0, .string (puV ep)] ++ vr (slt a) 10 20 ++ [pJ g1, .agg (av 3 (tl s)), .string (puV ep), slt a 33, .string ep, pJ g1 4, .string x] ++ vr (slt a) 37 45)) → l = #[true, true, true, false, true, true, true, false, false, false, false, false, false, false] → Mem ⟨w, []⟩ [⟨g1, .cells (av 5 (tm s [f, x])) 45⟩, ⟨g2, .cells (av 5 (zq 5)) 41⟩] w0 → H 8 l a w0 := by
     intro a l   u0 ha hl M
     generalize slt a = v at ha
     subst ha hl
     refine hB _ _ _ _ ?_
     refine hl_two 3 11 (by decide) (by decide) (by kernel_rfl) rfl rfl ?_ ?_
     ·refine ZC M 33 (fun w M => d_mix s (puV ep) (by rw [hs, puV_size]; decide) w M.laid) fun u5 M => nT ?_
      refine ⟨M, ?_⟩
      exact hA _ _ _ _ (s1 _ _  _ (by kernel_rfl) (by kernel_rfl) M)
     ·refine pN M 11 (.cells (av 3 (zq 3)) 33) fun g3 u5 M => nT ?_
      refine ⟨(M.drop (jC (.cons_cons _ (jK (.slnil))))), ?_⟩
      exact hA _ _ _ _ (s2 _ _ g3 _ (by kernel_rfl) (by kernel_rfl) M)
    exact s0 _ _  _ (by kernel_rfl) (by kernel_rfl) M
   ·refine pD M 26 (.tuple #[.string (puV ep), .int .i64 0]) (fun w M => Mon.rpubL ep w M.laid (by omega)) fun u3 M => rV 5 <| nT <| wp_seq <| rgh M [⟨g1, .cells (av 5 (tm s [f, x])) 45⟩, ⟨g2, .cells (av 5 (zq 5)) 41⟩] 13 fun u4 M => qV M 0 30 (pJ g1) <| hl_load M 1 rfl (by decide) (by kernel_rfl) (by kernel_rfl) (want_no rfl) (some 31) rfl 33 _ rfl 0 g1 0 (by kernel_rfl) 5 45 (tm s [f, x]) rfl 3 (tl s) (part_ls _ 0 3 _ rfl) (by decide) _ Tryz.underlying33 rfl inz33 <| qV M 2 32 (.string (puV ep)) <| qV M 4 34 (.string ep) <| qV M 5 35 (pJ g1 4) <| qE M 6 36 0 4 <| hl_name ?_
    intro H hA hB
    have s6 : ∀ (a : Act) (l : Array Bool) (g3 : Nat) (w0 : World), a = (fm ([.agg (av 5 (tm s [f, x])), .string ep, .string pl, pJ g1] ++ vr (slt a) 4 2 ++ [.string zb, pJ g2, .int .i64 0, .string (puV ep), slt a 10, pJ g3] ++ vr (slt a) 12 17 ++ [.tuple #[.agg (av 3 (tl (vS2 s x ep))), .int .i64 0], pJ g1, .agg (av 3 (tl s)), .string (puV ep), .agg (av 3 (tl (mixF s (puV ep)))), .string ep, pJ g1 4, .string x, .tuple #[.agg (av 3 (tl (vS2 s x ep))), .int .i64 0], .agg (av 3 (tl (vS2 s x ep))), .int .i64 0] ++ vr (slt a) 40 42)) → l = #[true, true, true, true, true, true, true, true, true, true, true, true, true, false] → Mem ⟨w, []⟩ [⟨g1, .cells (av 5 (tm s [f, x])) 45⟩, ⟨g2, .cells (av 5 (zq 5)) 41⟩, ⟨g3, .cells (av 3 (tl (vS2 s x ep))) 33⟩] w0 → H 1 l a w0 := by
     intro a l g3  u0 ha hl M
     generalize slt a = v at ha
     subst ha hl
     refine hB _ _ _ _ <| qZ ?_
     refine rV 1 <| nT <| au_then <| wp_seq <| sq <| cF <| wp_skip <| au_then <| sR <| pB M 45 2 <| rV 2 <| ZE M 48 0 3 ?_
     by_cases c3 : shN ep f = 0
     ·refine pD M 49 (.tuple #[.agg (av 3 (tl (vS2 s x ep))), .int .i64 30]) (fun w M => d_addZ (vS2 s x ep) ep f (by omega) (by omega) (vS2_c _ _) c3 w M.laid) fun u9 M => rV 3 <| ZL M 2 3 (tl (vS2 s x ep)) fun u10 M => rV 1 <| nT <| wp_seq <| sq <| cT <| sR <| rV 3 <| ZL M 1 5 (zq 5) fun u11 M => rV 1 <| nT <| wp_ret <| au_then_ret ?_
      have e0 : anE s f x ep pl = 30 := by simp only [anE, aS4_e _ _ _ _ h0, if_pos c0, if_neg c1, if_neg c2, if_pos c3]
      exact btct Tryz.results16 M (.string zb) 1 5 (zq 5) (.int .i64 30) ⟨below_grown M.old, .inl ⟨by rw [e0]; decide, by rw [e0]⟩⟩
     ·refine pD M 49 (.tuple #[.agg (av 3 (tl (vS3 s f x ep))), .int .i64 0]) (fun w M => d_addN (vS2 s x ep) ep f (by omega) (by omega) (vS2_c _ _) c3 w M.laid) fun u9 M => rV 3 <| ZL M 2 3 (tl (vS3 s f x ep)) fun u10 M => rV 1 <| nT <| wp_seq <| sq <| cF <| wp_skip <| au_then <| sR <| pB M 57 2 <| rV 1 <| pD M 59 (.tuple #[.agg (av 3 (tl (vS4 s f x ep pl))), .string (vX s f x ep pl)]) (fun w M => d_seal (vS3 s f x ep) pl (vS3_h _ _ _) (vS3_k _ _ _) (by omega) w M.laid) fun u11 M => rV 3 <| ZL M 2 3 (tl (vS4 s f x ep pl)) fun u12 M => ?_
      refine rV 1 <| nT <| sR <| rV 1 <| ZE M 64 2 1 <| pl_callg M (want_no rfl) (some 65) rfl 36 #[.string (vS4 s f x ep pl).c, .string zb, .int .i64 2] (fun g cap => .tuple #[.slice (some ⟨g, 0, none⟩) 2 cap, .int .i64 0]) (fun cap Y => SB Y cap (Bla.vtx (Bla.txt ((vS4 s f x ep pl).c) ⟨#[]⟩) 2)) (fun _ => by kernel_rfl) (fun w M => Bla.d_ch ((vS4 s f x ep pl).c) ⟨#[]⟩ (by decide) (vS4_c _ _ _ _) 2 (by decide) (by decide) w M.laid) ?_
      intro g4 cpg4 Zg4 u13 hZg4 M
      refine rV 5 <| nT <| wp_seq <| rgh M [⟨g1, .cells (av 5 (tm s [f, x])) 45⟩, ⟨g3, .cells (av 3 (tl (vS4 s f x ep pl))) 33⟩, ⟨g4, Zg4⟩] 16 fun u14 M => ?_
      have qM := M.drop (jC (jK (jC (.cons_cons _ (.slnil)))))
      refine qV qM 0 68 (.string (puV ep)) <| qV qM 1 69 (.string (vX s f x ep pl)) <| qH qM 2 70 (.string ((puV ep) ++ (vX s f x ep pl))) (fun w _ => (run_cat 9 9 _ _ rfl (puV ep) (vX s f x ep pl) (by kernel_rfl) (by kernel_rfl) (by rw [puV_size, vX_size]; omega)) w) <| qV qM 3 71 (pJ g1 3) <| qE qM 4 72 0 3 <| qV qM 5 73 (.slice (some ⟨g4, 0, none⟩) 2 cpg4) <| qV qM 6 74 (pJ g4 1) <| qC qM 7 75 g4 1 (.string (nxB ((vS4 s f x ep pl).c) ⟨#[]⟩)) (fun w M => hZg4.cell (M.get 2 rfl) (Bla.vtx_get _ 2 1 (by decide))) <| qV qM 8 76 (.slice (some ⟨g4, 0, none⟩) 2 cpg4) <| qV qM 9 77 (pJ g4) <| qC qM 10 78 g4 0 (.string (nxA ((vS4 s f x ep pl).c) ⟨#[]⟩)) (fun w M => hZg4.cell (M.get 2 rfl) (Bla.vtx_get _ 2 0 (by decide))) <| qV qM 11 79 (pJ g3) <| qE qM 12 80 1 0 <| qV qM 13 81 (.agg (av 5 (sQ [f, zb, nxB ((vS4 s f x ep pl).c) ⟨#[]⟩, nxA ((vS4 s f x ep pl).c) ⟨#[]⟩, (vS4 s f x ep pl).h]))) <| qV qM 14 6 (.string ((puV ep) ++ (vX s f x ep pl))) <| qO 15 ?_
      refine ZL M 1 5 (sQ [f, zb, nxB ((vS4 s f x ep pl).c) ⟨#[]⟩, nxA ((vS4 s f x ep pl).c) ⟨#[]⟩, (vS4 s f x ep pl).h]) fun u15 M => nT ?_
      refine ⟨(M.drop (jC (jK (jC (.cons_cons _ (.slnil)))))), ?_⟩
      refine qZ ?_
      refine rV 1 <| nT <| au_then <| wp_ret ?_
      have e0 : anE s f x ep pl = 0 := by simp only [anE, aS4_e _ _ _ _ h0, if_pos c0, if_neg c1, if_neg c2, if_neg c3]
      exact btct Tryz.results16 M (.string ((puV ep) ++ (vX s f x ep pl))) 1 5 (sQ [f, zb, nxB ((vS4 s f x ep pl).c) ⟨#[]⟩, nxA ((vS4 s f x ep pl).c) ⟨#[]⟩, (vS4 s f x ep pl).h]) (.int .i64 0) ⟨below_grown M.old, .inr ⟨e0, rfl⟩⟩
    have s5 : ∀ (a : Act) (l : Array Bool) (g3 : Nat) (w0 : World), a = (fm ([.agg (av 5 (tm s [f, x])), .string ep, .string pl, pJ g1] ++ vr (slt a) 4 2 ++ [.string zb, pJ g2, .int .i64 0, .string (puV ep), slt a 10, pJ g3] ++ vr (slt a) 12 17 ++ [.tuple #[.agg (av 3 (tl (vS2 s x ep))), .int .i64 0], pJ g1, .agg (av 3 (tl s)), .string (puV ep), .agg (av 3 (tl (mixF s (puV ep)))), .string ep, pJ g1 4, .string x, .tuple #[.agg (av 3 (tl (vS2 s x ep))), .int .i64 0], .agg (av 3 (tl (vS2 s x ep))), .int .i64 0] ++ vr (slt a) 40 42)) → l = #[true, true, true, true, true, true, true, true, true, true, true, true, false, false] → Mem ⟨w, []⟩ [⟨g1, .cells (av 5 (tm s [f, x])) 45⟩, ⟨g2, .cells (av 5 (zq 5)) 41⟩, ⟨g3, .cells (av 3 (zq 3)) 33⟩] w0 → H 2 l a w0 := by
     intro a l g3  u0 ha hl M
     generalize slt a = v at ha
     subst ha hl
     refine hB _ _ _ _ <| qO 12 ?_
     refine ZL M 2 3 (tl (vS2 s x ep)) fun u8 M => nT ?_
     refine ⟨(M.drop (jC (.cons_cons _ (jK (.slnil))))), ?_⟩
     exact hA _ _ _ _ (s6 _ _ g3 _ (by kernel_rfl) (by kernel_rfl) M)
    have s3 : ∀ (a : Act) (l : Array Bool) (w0 : World), a = (fm ([.agg (av 5 (tm s [f, x])), .string ep, .string pl, pJ g1] ++ vr (slt a) 4 2 ++ [.string zb, pJ g2, .int .i64 0, .string (puV ep)] ++ vr (slt a) 10 19 ++ [.tuple #[.agg (av 3 (tl (vS2 s x ep))), .int .i64 0], pJ g1, .agg (av 3 (tl s)), .string (puV ep), .agg (av 3 (tl (mixF s (puV ep)))), .string ep, pJ g1 4, .string x, .tuple #[.agg (av 3 (tl (vS2 s x ep))), .int .i64 0], .agg (av 3 (tl (vS2 s x ep))), .int .i64 0] ++ vr (slt a) 40 42)) → l = #[true, true, true, true, true, true, true, true, true, true, true, false, false, false] → Mem ⟨w, []⟩ [⟨g1, .cells (av 5 (tm s [f, x])) 45⟩, ⟨g2, .cells (av 5 (zq 5)) 41⟩] w0 → H 3 l a w0 := by
     intro a l   u0 ha hl M
     generalize slt a = v at ha
     subst ha hl
     refine hB _ _ _ _ <| qO 11 ?_
     refine pN M 11 (.cells (av 3 (zq 3)) 33) fun g3 u7 M => nT ?_
     refine ⟨(M.drop (jC (.cons_cons _ (jK (.slnil))))), ?_⟩
     exact hA _ _ _ _ (s5 _ _ g3 _ (by kernel_rfl) (by kernel_rfl) M)
    have s4 : ∀ (a : Act) (l : Array Bool) (g3 : Nat) (w0 : World), a = (fm ([.agg (av 5 (tm s [f, x])), .string ep, .string pl, pJ g1] ++ vr (slt a) 4 2 ++ [.string zb, pJ g2, .int .i64 0, .string (puV ep), slt a 10, pJ g3] ++ vr (slt a) 12 18 ++ [pJ g1, .agg (av 3 (tl s)), .string (puV ep), .agg (av 3 (tl (mixF s (puV ep)))), .string ep, pJ g1 4, .string x] ++ vr (slt a) 37 45)) → l = #[true, true, true, true, true, true, true, false, false, false, false, true, false, false] → Mem ⟨w, []⟩ [⟨g1, .cells (av 5 (tm s [f, x])) 45⟩, ⟨g2, .cells (av 5 (zq 5)) 41⟩, ⟨g3, .cells (av 3 (zq 3)) 33⟩] w0 → H 6 l a w0 := by
     intro a l g3  u0 ha hl M
     generalize slt a = v at ha
     subst ha hl
     refine hB _ _ _ _ <| qO 7 ?_
     refine ZC M 37 (fun w M => d_addN (mixF s (puV ep)) ep x (by omega) (by omega) (mixF_cs hc) c2 w M.laid) fun u7 M => nT ?_
     refine ⟨(M.drop (jC (.cons_cons _ (jK (.slnil))))), ?_⟩
     have qM := M.drop (jC (.cons_cons _ (jK (.slnil))))
     refine qV qM 8 29 (.tuple #[.agg (av 3 (tl (vS2 s x ep))), .int .i64 0]) <| qV qM 9 38 (.agg (av 3 (tl (vS2 s x ep)))) <| qV qM 10 39 (.int .i64 0) ?_
     exact hA _ _ _ _ (s5 _ _ g3 _ (by kernel_rfl) (by kernel_rfl) M)
    have s1 : ∀ (a : Act) (l : Array Bool) (w0 : World), a = (fm ([.agg (av 5 (tm s [f, x])), .string ep, .string pl, pJ g1] ++ vr (slt a) 4 2 ++ [.string zb, pJ g2, .int .i64 0, .string (puV ep)] ++ vr (slt a) 10 20 ++ [pJ g1, .agg (av 3 (tl s)), .string (puV ep), .agg (av 3 (tl (mixF s (puV ep)))), .string ep, pJ g1 4, .string x] ++ vr (slt a) 37 45)) → l = #[true, true, true, true, true, true, true, false, false, false, false, false, false, false] → Mem ⟨w, []⟩ [⟨g1, .cells (av 5 (tm s [f, x])) 45⟩, ⟨g2, .cells (av 5 (zq 5)) 41⟩] w0 → H 7 l a w0 := by
     intro a l   u0 ha hl M
     generalize slt a = v at ha
     subst ha hl
     refine hB _ _ _ _ ?_
     refine hl_two 7 11 (by decide) (by decide) (by kernel_rfl) rfl rfl ?_ ?_
     ·refine ZC M 37 (fun w M => d_addN (mixF s (puV ep)) ep x (by omega) (by omega) (mixF_cs hc) c2 w M.laid) fun u6 M => nT ?_
      refine ⟨M, ?_⟩
      refine qV M 8 29 (.tuple #[.agg (av 3 (tl (vS2 s x ep))), .int .i64 0]) <| qV M 9 38 (.agg (av 3 (tl (vS2 s x ep)))) <| qV M 10 39 (.int .i64 0) ?_
      exact hA _ _ _ _ (s3 _ _  _ (by kernel_rfl) (by kernel_rfl) M)
     ·refine pN M 11 (.cells (av 3 (zq 3)) 33) fun g3 u6 M => nT ?_
      refine ⟨(M.drop (jC (.cons_cons _ (jK (.slnil))))), ?_⟩
      exact hA _ _ _ _ (s4 _ _ g3 _ (by kernel_rfl) (by kernel_rfl) M)
    have s2 : ∀ (a : Act) (l : Array Bool) (g3 : Nat) (w0 : World), a = (fm ([.agg (av 5 (tm s [f, x])), .string ep, .string pl, pJ g1] ++ vr (slt a) 4 2 ++ [.string zb, pJ g2, .int .i64 0, .string (puV ep), slt a 10, pJ g3] ++ vr (slt a) 12 18 ++ [pJ g1, .agg (av 3 (tl s)), .string (puV ep), slt a 33, .string ep, pJ g1 4, .string x] ++ vr (slt a) 37 45)) → l = #[true, true, true, false, true, true, true, false, false, false, false, true, false, false] → Mem ⟨w, []⟩ [⟨g1, .cells (av 5 (tm s [f, x])) 45⟩, ⟨g2, .cells (av 5 (zq 5)) 41⟩, ⟨g3, .cells (av 3 (zq 3)) 33⟩] w0 → H 7 l a w0 := by
     intro a l g3  u0 ha hl M
     generalize slt a = v at ha
     subst ha hl
     refine hB _ _ _ _ <| qO 3 ?_
     refine ZC M 33 (fun w M => d_mix s (puV ep) (by rw [hs, puV_size]; decide) w M.laid) fun u6 M => nT ?_
     refine ⟨(M.drop (jC (.cons_cons _ (jK (.slnil))))), ?_⟩
     exact hA _ _ _ _ (s4 _ _ g3 _ (by kernel_rfl) (by kernel_rfl) M)
    have s0 : ∀ (a : Act) (l : Array Bool) (w0 : World), a = (fm ([.agg (av 5 (tm s [f, x])), .string ep, .string pl, pJ g1] ++ vr (slt a) 4 2 ++ [.string zb, pJ g2, .int .i64 0, .string (puV ep)] ++ vr (slt a) 10 20 ++ [pJ g1, .agg (av 3 (tl s)), .string (puV ep), slt a 33, .string ep, pJ g1 4, .string x] ++ vr (slt a) 37 45)) → l = #[true, true, true, false, true, true, true, false, false, false, false, false, false, false] → Mem ⟨w, []⟩ [⟨g1, .cells (av 5 (tm s [f, x])) 45⟩, ⟨g2, .cells (av 5 (zq 5)) 41⟩] w0 → H 8 l a w0 := by
     intro a l   u0 ha hl M
     generalize slt a = v at ha
     subst ha hl
     refine hB _ _ _ _ ?_
     refine hl_two 3 11 (by decide) (by decide) (by kernel_rfl) rfl rfl ?_ ?_
     ·refine ZC M 33 (fun w M => d_mix s (puV ep) (by rw [hs, puV_size]; decide) w M.laid) fun u5 M => nT ?_
      refine ⟨M, ?_⟩
      exact hA _ _ _ _ (s1 _ _  _ (by kernel_rfl) (by kernel_rfl) M)
     ·refine pN M 11 (.cells (av 3 (zq 3)) 33) fun g3 u5 M => nT ?_
      refine ⟨(M.drop (jC (.cons_cons _ (jK (.slnil))))), ?_⟩
      exact hA _ _ _ _ (s2 _ _ g3 _ (by kernel_rfl) (by kernel_rfl) M)
    exact s0 _ _  _ (by kernel_rfl) (by kernel_rfl) M
 ·refine wU 18 c0 <| nT <| cT <| sR <| rV 2 <| ZL M 1 5 (zq 5) fun u3 M => rV 1 <| nT <| wp_ret <| au_then_ret ?_
  have e0 : anE s f x ep pl = 2 := by simp only [anE, aS4_e _ _ _ _ h0, if_neg c0]
  exact btct Tryz.results16 M (.string zb) 1 5 (zq 5) (.int .i64 2) ⟨below_grown M.old, .inl ⟨by rw [e0]; decide, by rw [e0]⟩⟩
theorem d_Finish (s : St) (sa ep ob rp : Yb) (h0 : s.e = 0) (hs : s.h.size = 32) (hc : s.c.size < 100000) (ha : sa.size = 32) (hp : ep.size = 32) (w : World) (hL : Laid w) : Calls Tryz.prog 18 #[.agg (av 6 (tm s [sa, ep, ob])), .string rp] w fun r w' => Below w.heap.size w w' ∧ ((fiE s sa ep rp ≠ 0 ∧ r = .returned (.tuple #[.agg (av 5 (zq 5)), .int .i64 (fiE s sa ep rp)])) ∨ (fiE s sa ep rp = 0 ∧ r = .returned (.tuple #[.agg (av 5 (sQ [ob, gP s sa ep rp, nxA (gS4 s sa ep rp).c ⟨#[]⟩, nxB (gS4 s sa ep rp).c ⟨#[]⟩, (gS4 s sa ep rp).h])), .int .i64 0]))) := by
 go_enter Tryz.func18, Tryz.ntmps18
 have M := Mem.start hL
 refine sR <| pN M 2 (.cells (av 6 (tm s [sa, ep, ob])) 35) fun g1 u1 M => pN M 4 (.cells (av 5 (zq 5)) 41) fun g2 u2 M => rV 1 <| nT <| wp_seq <| sR <| rV 2 ?_
 by_cases c0 : 4144 < (rp.size : Int)
 ·refine wT 13 c0 <| nT <| cT <| sR <| rV 1 <| ZL M 1 5 (zq 5) fun u3 M => rV 1 <| nT <| wp_ret <| au_then_ret ?_
  have e0 : fiE s sa ep rp = 4 := by simp only [fiE, fS4_e _ _ _ h0, if_pos c0]
  exact bct Tryz.results18 M 1 5 (zq 5) (.int .i64 4) ⟨below_grown M.old, .inl ⟨by rw [e0]; decide, by rw [e0]⟩⟩
 ·refine wF 13 c0 <| nT <| cF <| wp_skip <| au_then <| wp_seq <| sR <| rV 2 ?_
  by_cases c1 : (rp.size : Int) < 48
  ·refine wT 17 c1 <| nT <| cT <| sR <| rV 1 <| ZL M 1 5 (zq 5) fun u3 M => rV 1 <| nT <| wp_ret <| au_then_ret ?_
   have e0 : fiE s sa ep rp = 7 := by simp only [fiE, fS4_e _ _ _ h0, if_neg c0, if_pos c1]
   exact bct Tryz.results18 M 1 5 (zq 5) (.int .i64 7) ⟨below_grown M.old, .inl ⟨by rw [e0]; decide, by rw [e0]⟩⟩
  ·refine wF 17 c1 <| nT <| cF <| wp_skip <| au_then <| wp_seq <| rgh M [⟨g1, .cells (av 6 (tm s [sa, ep, ob])) 35⟩, ⟨g2, .cells (av 5 (zq 5)) 41⟩] 15 fun u3 M => qV M 0 20 (pJ g1) <| hl_load M 1 rfl (by decide) (by kernel_rfl) (by kernel_rfl) (want_no rfl) (some 21) rfl 33 _ rfl 0 g1 0 (by kernel_rfl) 6 35 (tm s [sa, ep, ob]) rfl 3 (tl s) (part_ls _ 0 3 _ rfl) (by decide) _ Tryz.underlying33 rfl inz33 <| qV M 2 22 (.string rp) ?_
   by_cases c2 : shN ep (rE rp) = 0
   ·refine qH M 3 23 (.string (rE rp)) (fun w _ => (run_strh 9 Tryz.underlying9 _ _ rfl rp (by kernel_rfl) .i64 32 (by kernel_rfl) (by omega) _ rfl) w) <| qV M 5 25 (pJ g1 4) <| qE M 6 26 0 4 <| qV M 7 27 (.string rp) <| qH M 8 28 (.string (rE rp)) (fun w _ => (run_strh 9 Tryz.underlying9 _ _ rfl rp (by kernel_rfl) .i64 32 (by kernel_rfl) (by omega) _ rfl) w) <| hl_name ?_
    intro H hA hB
    have s6 : ∀ (a : Act) (l : Array Bool) (g3 : Nat) (w0 : World), a = (fm ([.agg (av 6 (tm s [sa, ep, ob])), .string rp, pJ g1, slt a 3, pJ g2, .int .i64 0, pJ g3] ++ vr (slt a) 7 12 ++ [.tuple #[.agg (av 3 (tl (fS1 s rp))), .int .i64 30], pJ g1, .agg (av 3 (tl s)), .string rp, .string (rE rp), .agg (av 3 (tl (fS1 s rp))), pJ g1 4, .string ep, .string rp, .string (rE rp), .tuple #[.agg (av 3 (tl (fS1 s rp))), .int .i64 30], .agg (av 3 (tl (fS1 s rp))), .int .i64 30] ++ vr (slt a) 32 47)) → l = #[true, true, true, true, true, true, true, true, true, true, true, true, true, true, true, false] → Mem ⟨w, []⟩ [⟨g1, .cells (av 6 (tm s [sa, ep, ob])) 35⟩, ⟨g2, .cells (av 5 (zq 5)) 41⟩, ⟨g3, .cells (av 3 (tl (fS1 s rp))) 33⟩] w0 → H 1 l a w0 := by
     intro a l g3  u0 ha hl M
     generalize slt a = v at ha
     subst ha hl
     refine hB _ _ _ _ <| qZ ?_
     refine rV 1 <| nT <| au_then <| wp_seq <| sq <| cT <| sR <| rV 2 <| ZL M 1 5 (zq 5) fun u8 M => rV 1 <| nT <| wp_ret <| au_then_ret ?_
     have e0 : fiE s sa ep rp = 30 := by simp only [fiE, fS4_e _ _ _ h0, if_neg c0, if_neg c1, if_pos c2]
     exact bct Tryz.results18 M 1 5 (zq 5) (.int .i64 30) ⟨below_grown M.old, .inl ⟨by rw [e0]; decide, by rw [e0]⟩⟩
    have s5 : ∀ (a : Act) (l : Array Bool) (g3 : Nat) (w0 : World), a = (fm ([.agg (av 6 (tm s [sa, ep, ob])), .string rp, pJ g1, slt a 3, pJ g2, .int .i64 0, pJ g3] ++ vr (slt a) 7 12 ++ [.tuple #[.agg (av 3 (tl (fS1 s rp))), .int .i64 30], pJ g1, .agg (av 3 (tl s)), .string rp, .string (rE rp), .agg (av 3 (tl (fS1 s rp))), pJ g1 4, .string ep, .string rp, .string (rE rp), .tuple #[.agg (av 3 (tl (fS1 s rp))), .int .i64 30], .agg (av 3 (tl (fS1 s rp))), .int .i64 30] ++ vr (slt a) 32 47)) → l = #[true, true, true, true, true, true, true, true, true, true, true, true, true, true, false, false] → Mem ⟨w, []⟩ [⟨g1, .cells (av 6 (tm s [sa, ep, ob])) 35⟩, ⟨g2, .cells (av 5 (zq 5)) 41⟩, ⟨g3, .cells (av 3 (zq 3)) 33⟩] w0 → H 2 l a w0 := by
     intro a l g3  u0 ha hl M
     generalize slt a = v at ha
     subst ha hl
     refine hB _ _ _ _ <| qO 14 ?_
     refine ZL M 2 3 (tl (fS1 s rp)) fun u7 M => nT ?_
     refine ⟨(M.drop (jC (.cons_cons _ (jK (.slnil))))), ?_⟩
     exact hA _ _ _ _ (s6 _ _ g3 _ (by kernel_rfl) (by kernel_rfl) M)
    have s3 : ∀ (a : Act) (l : Array Bool) (w0 : World), a = (fm ([.agg (av 6 (tm s [sa, ep, ob])), .string rp, pJ g1, slt a 3, pJ g2, .int .i64 0] ++ vr (slt a) 6 13 ++ [.tuple #[.agg (av 3 (tl (fS1 s rp))), .int .i64 30], pJ g1, .agg (av 3 (tl s)), .string rp, .string (rE rp), .agg (av 3 (tl (fS1 s rp))), pJ g1 4, .string ep, .string rp, .string (rE rp), .tuple #[.agg (av 3 (tl (fS1 s rp))), .int .i64 30], .agg (av 3 (tl (fS1 s rp))), .int .i64 30] ++ vr (slt a) 32 47)) → l = #[true, true, true, true, true, true, true, true, true, true, true, true, true, false, false, false] → Mem ⟨w, []⟩ [⟨g1, .cells (av 6 (tm s [sa, ep, ob])) 35⟩, ⟨g2, .cells (av 5 (zq 5)) 41⟩] w0 → H 3 l a w0 := by
     intro a l   u0 ha hl M
     generalize slt a = v at ha
     subst ha hl
     refine hB _ _ _ _ <| qO 13 ?_
     refine pN M 6 (.cells (av 3 (zq 3)) 33) fun g3 u6 M => nT ?_
     refine ⟨(M.drop (jC (.cons_cons _ (jK (.slnil))))), ?_⟩
     exact hA _ _ _ _ (s5 _ _ g3 _ (by kernel_rfl) (by kernel_rfl) M)
    have s4 : ∀ (a : Act) (l : Array Bool) (g3 : Nat) (w0 : World), a = (fm ([.agg (av 6 (tm s [sa, ep, ob])), .string rp, pJ g1, slt a 3, pJ g2, .int .i64 0, pJ g3] ++ vr (slt a) 7 13 ++ [pJ g1, .agg (av 3 (tl s)), .string rp, .string (rE rp), .agg (av 3 (tl (fS1 s rp))), pJ g1 4, .string ep, .string rp, .string (rE rp)] ++ vr (slt a) 29 50)) → l = #[true, true, true, true, true, true, true, true, true, false, false, false, false, true, false, false] → Mem ⟨w, []⟩ [⟨g1, .cells (av 6 (tm s [sa, ep, ob])) 35⟩, ⟨g2, .cells (av 5 (zq 5)) 41⟩, ⟨g3, .cells (av 3 (zq 3)) 33⟩] w0 → H 6 l a w0 := by
     intro a l g3  u0 ha hl M
     generalize slt a = v at ha
     subst ha hl
     refine hB _ _ _ _ <| qO 9 ?_
     refine ZC M 29 (fun w M => d_addZ (fS1 s rp) ep (rE rp) (by omega) (rE_size (by omega)) (mixF_cs hc) c2 w M.laid) fun u6 M => nT ?_
     refine ⟨(M.drop (jC (.cons_cons _ (jK (.slnil))))), ?_⟩
     have qM := M.drop (jC (.cons_cons _ (jK (.slnil))))
     refine qV qM 10 19 (.tuple #[.agg (av 3 (tl (fS1 s rp))), .int .i64 30]) <| qV qM 11 30 (.agg (av 3 (tl (fS1 s rp)))) <| qV qM 12 31 (.int .i64 30) ?_
     exact hA _ _ _ _ (s5 _ _ g3 _ (by kernel_rfl) (by kernel_rfl) M)
    have s1 : ∀ (a : Act) (l : Array Bool) (w0 : World), a = (fm ([.agg (av 6 (tm s [sa, ep, ob])), .string rp, pJ g1, slt a 3, pJ g2, .int .i64 0] ++ vr (slt a) 6 14 ++ [pJ g1, .agg (av 3 (tl s)), .string rp, .string (rE rp), .agg (av 3 (tl (fS1 s rp))), pJ g1 4, .string ep, .string rp, .string (rE rp)] ++ vr (slt a) 29 50)) → l = #[true, true, true, true, true, true, true, true, true, false, false, false, false, false, false, false] → Mem ⟨w, []⟩ [⟨g1, .cells (av 6 (tm s [sa, ep, ob])) 35⟩, ⟨g2, .cells (av 5 (zq 5)) 41⟩] w0 → H 7 l a w0 := by
     intro a l   u0 ha hl M
     generalize slt a = v at ha
     subst ha hl
     refine hB _ _ _ _ ?_
     refine hl_two 9 13 (by decide) (by decide) (by kernel_rfl) rfl rfl ?_ ?_
     ·refine ZC M 29 (fun w M => d_addZ (fS1 s rp) ep (rE rp) (by omega) (rE_size (by omega)) (mixF_cs hc) c2 w M.laid) fun u5 M => nT ?_
      refine ⟨M, ?_⟩
      refine qV M 10 19 (.tuple #[.agg (av 3 (tl (fS1 s rp))), .int .i64 30]) <| qV M 11 30 (.agg (av 3 (tl (fS1 s rp)))) <| qV M 12 31 (.int .i64 30) ?_
      exact hA _ _ _ _ (s3 _ _  _ (by kernel_rfl) (by kernel_rfl) M)
     ·refine pN M 6 (.cells (av 3 (zq 3)) 33) fun g3 u5 M => nT ?_
      refine ⟨(M.drop (jC (.cons_cons _ (jK (.slnil))))), ?_⟩
      exact hA _ _ _ _ (s4 _ _ g3 _ (by kernel_rfl) (by kernel_rfl) M)
    have s2 : ∀ (a : Act) (l : Array Bool) (g3 : Nat) (w0 : World), a = (fm ([.agg (av 6 (tm s [sa, ep, ob])), .string rp, pJ g1, slt a 3, pJ g2, .int .i64 0, pJ g3] ++ vr (slt a) 7 13 ++ [pJ g1, .agg (av 3 (tl s)), .string rp, .string (rE rp), slt a 24, pJ g1 4, .string ep, .string rp, .string (rE rp)] ++ vr (slt a) 29 50)) → l = #[true, true, true, true, false, true, true, true, true, false, false, false, false, true, false, false] → Mem ⟨w, []⟩ [⟨g1, .cells (av 6 (tm s [sa, ep, ob])) 35⟩, ⟨g2, .cells (av 5 (zq 5)) 41⟩, ⟨g3, .cells (av 3 (zq 3)) 33⟩] w0 → H 7 l a w0 := by
     intro a l g3  u0 ha hl M
     generalize slt a = v at ha
     subst ha hl
     refine hB _ _ _ _ <| qO 4 ?_
     refine ZC M 24 (fun w M => d_mix s (rE rp) (by rw [hs, rE_size (by omega)]; decide) w M.laid) fun u5 M => ?_
     refine nT ?_
     refine ⟨(M.drop (jC (.cons_cons _ (jK (.slnil))))), ?_⟩
     exact hA _ _ _ _ (s4 _ _ g3 _ (by kernel_rfl) (by kernel_rfl) M)
    have s0 : ∀ (a : Act) (l : Array Bool) (w0 : World), a = (fm ([.agg (av 6 (tm s [sa, ep, ob])), .string rp, pJ g1, slt a 3, pJ g2, .int .i64 0] ++ vr (slt a) 6 14 ++ [pJ g1, .agg (av 3 (tl s)), .string rp, .string (rE rp), slt a 24, pJ g1 4, .string ep, .string rp, .string (rE rp)] ++ vr (slt a) 29 50)) → l = #[true, true, true, true, false, true, true, true, true, false, false, false, false, false, false, false] → Mem ⟨w, []⟩ [⟨g1, .cells (av 6 (tm s [sa, ep, ob])) 35⟩, ⟨g2, .cells (av 5 (zq 5)) 41⟩] w0 → H 8 l a w0 := by
     intro a l   u0 ha hl M
     generalize slt a = v at ha
     subst ha hl
     refine hB _ _ _ _ ?_
     refine hl_two 4 13 (by decide) (by decide) (by kernel_rfl) rfl rfl ?_ ?_
     ·refine ZC M 24 (fun w M => d_mix s (rE rp) (by rw [hs, rE_size (by omega)]; decide) w M.laid) fun u4 M => ?_
      refine nT ?_
      refine ⟨M, ?_⟩
      exact hA _ _ _ _ (s1 _ _  _ (by kernel_rfl) (by kernel_rfl) M)
     ·refine pN M 6 (.cells (av 3 (zq 3)) 33) fun g3 u4 M => nT ?_
      refine ⟨(M.drop (jC (.cons_cons _ (jK (.slnil))))), ?_⟩
      exact hA _ _ _ _ (s2 _ _ g3 _ (by kernel_rfl) (by kernel_rfl) M)
    exact s0 _ _  _ (by kernel_rfl) (by kernel_rfl) M
   ·refine qH M 3 23 (.string (rE rp)) (fun w _ => (run_strh 9 Tryz.underlying9 _ _ rfl rp (by kernel_rfl) .i64 32 (by kernel_rfl) (by omega) _ rfl) w) <| qV M 5 25 (pJ g1 4) <| qE M 6 26 0 4 <| qV M 7 27 (.string rp) <| qH M 8 28 (.string (rE rp)) (fun w _ => (run_strh 9 Tryz.underlying9 _ _ rfl rp (by kernel_rfl) .i64 32 (by kernel_rfl) (by omega) _ rfl) w) <| hl_name ?_
    intro H hA hB
    have s6 : ∀ (a : Act) (l : Array Bool) (g3 : Nat) (w0 : World), a = (fm ([.agg (av 6 (tm s [sa, ep, ob])), .string rp, pJ g1, slt a 3, pJ g2, .int .i64 0, pJ g3] ++ vr (slt a) 7 12 ++ [.tuple #[.agg (av 3 (tl (gS2 s ep rp))), .int .i64 0], pJ g1, .agg (av 3 (tl s)), .string rp, .string (rE rp), .agg (av 3 (tl (fS1 s rp))), pJ g1 4, .string ep, .string rp, .string (rE rp), .tuple #[.agg (av 3 (tl (gS2 s ep rp))), .int .i64 0], .agg (av 3 (tl (gS2 s ep rp))), .int .i64 0] ++ vr (slt a) 32 47)) → l = #[true, true, true, true, true, true, true, true, true, true, true, true, true, true, true, false] → Mem ⟨w, []⟩ [⟨g1, .cells (av 6 (tm s [sa, ep, ob])) 35⟩, ⟨g2, .cells (av 5 (zq 5)) 41⟩, ⟨g3, .cells (av 3 (tl (gS2 s ep rp))) 33⟩] w0 → H 1 l a w0 := by
     intro a l g3  u0 ha hl M
     generalize slt a = v at ha
     subst ha hl
     refine hB _ _ _ _ <| qZ ?_
     refine rV 1 <| nT <| au_then <| wp_seq <| sq <| cF <| wp_skip <| au_then <| wp_seq <| rgh M [⟨g1, .cells (av 6 (tm s [sa, ep, ob])) 35⟩, ⟨g2, .cells (av 5 (zq 5)) 41⟩] 10 fun u8 M => ?_
     have qM := M.drop (jC (.cons_cons _ (jK (.slnil))))
     refine qV qM 1 38 (pJ g1 3) <| qE qM 2 39 0 3 <| qV qM 3 40 (.string rp) <| qH qM 4 41 (.string (rE rp)) (fun w _ => (run_strh 9 Tryz.underlying9 _ _ rfl rp (by kernel_rfl) .i64 32 (by kernel_rfl) (by omega) _ rfl) w) <| qO 0 ?_
     refine pB M 37 2 <| nT ?_
     refine ⟨(M.drop (jC (.cons_cons _ (jK (.slnil))))), ?_⟩
     refine qO 5 ?_
     by_cases c3 : shN sa (rE rp) = 0
     ·refine pD M 42 (.tuple #[.agg (av 3 (tl (gS2 s ep rp))), .int .i64 30]) (fun w M => d_addZ (gS2 s ep rp) sa (rE rp) (by omega) (rE_size (by omega)) (gS2_c _ _) c3 w M.laid) fun u9 M => nT ?_
      refine ⟨(M.drop (jC (.cons_cons _ (jK (.slnil))))), ?_⟩
      have qM := M.drop (jC (.cons_cons _ (jK (.slnil))))
      refine qV qM 6 36 (.tuple #[.agg (av 3 (tl (gS2 s ep rp))), .int .i64 30]) <| qV qM 7 43 (.agg (av 3 (tl (gS2 s ep rp)))) <| qV qM 8 44 (.int .i64 30) <| qO 9 ?_
      refine ZL M 2 3 (tl (gS2 s ep rp)) fun u10 M => nT ?_
      refine ⟨(M.drop (jC (.cons_cons _ (jK (.slnil))))), ?_⟩
      refine qZ ?_
      refine rV 1 <| nT <| au_then <| wp_seq <| sq <| cT <| sR <| rV 2 <| ZL M 1 5 (zq 5) fun u11 M => rV 1 <| nT <| wp_ret <| au_then_ret ?_
      have e0 : fiE s sa ep rp = 30 := by simp only [fiE, fS4_e _ _ _ h0, if_neg c0, if_neg c1, if_neg c2, if_pos c3]
      exact bct Tryz.results18 M 1 5 (zq 5) (.int .i64 30) ⟨below_grown M.old, .inl ⟨by rw [e0]; decide, by rw [e0]⟩⟩
     ·refine pD M 42 (.tuple #[.agg (av 3 (tl (gS3 s sa ep rp))), .int .i64 0]) (fun w M => d_addN (gS2 s ep rp) sa (rE rp) (by omega) (rE_size (by omega)) (gS2_c _ _) c3 w M.laid) fun u9 M => nT ?_
      refine ⟨(M.drop (jC (.cons_cons _ (jK (.slnil))))), ?_⟩
      have qM := M.drop (jC (.cons_cons _ (jK (.slnil))))
      refine qV qM 6 36 (.tuple #[.agg (av 3 (tl (gS3 s sa ep rp))), .int .i64 0]) <| qV qM 7 43 (.agg (av 3 (tl (gS3 s sa ep rp)))) <| qV qM 8 44 (.int .i64 0) <| qO 9 ?_
      refine ZL M 2 3 (tl (gS3 s sa ep rp)) fun u10 M => nT ?_
      refine ⟨(M.drop (jC (.cons_cons _ (jK (.slnil))))), ?_⟩
      refine qZ ?_
      refine rV 1 <| nT <| au_then <| wp_seq <| sq <| cF <| wp_skip <| au_then <| wp_seq <| rgh M [⟨g1, .cells (av 6 (tm s [sa, ep, ob])) 35⟩, ⟨g2, .cells (av 5 (zq 5)) 41⟩] 10 fun u11 M => ?_
      have qM := M.drop (jC (.cons_cons _ (jK (.slnil))))
      refine qV qM 1 51 (.string rp) <| qH qM 2 52 (.string (fC rp)) (fun w _ => (run_strl 9 Tryz.underlying9 _ _ rfl rp (by kernel_rfl) .i64 32 (by kernel_rfl) (by omega) _ rfl) w) <| qO 0 ?_
      refine pB M 50 2 <| nT ?_
      refine ⟨(M.drop (jC (.cons_cons _ (jK (.slnil))))), ?_⟩
      refine qO 3 ?_
      by_cases c4 : tagOk (gS3 s sa ep rp) (fC rp)
      ·refine pD M 53 (.tuple #[.agg (av 3 (tl (gS4 s sa ep rp))), .string (gP s sa ep rp), .int .i64 0]) (fun w M => d_openA (gS3 s sa ep rp) (fC rp) (gS3_h _ _ _) (gS3_k _ _ _) (by rw [fC_size (by omega)]; omega) (by rw [fC_size (by omega)]; omega) c4 w M.laid) fun u12 M => ?_
       refine nT ?_
       refine ⟨(M.drop (jC (.cons_cons _ (jK (.slnil))))), ?_⟩
       have qM := M.drop (jC (.cons_cons _ (jK (.slnil))))
       refine qV qM 4 49 (.tuple #[.agg (av 3 (tl (gS4 s sa ep rp))), .string (gP s sa ep rp), .int .i64 0]) <| qV qM 5 54 (.agg (av 3 (tl (gS4 s sa ep rp)))) <| qV qM 6 55 (.string (gP s sa ep rp)) <| qV qM 7 56 (.int .i64 0) <| qO 8 ?_
       refine ZL M 2 3 (tl (gS4 s sa ep rp)) fun u13 M => nT ?_
       refine ⟨(M.drop (jC (.cons_cons _ (jK (.slnil))))), ?_⟩
       refine qV (M.drop (jC (.cons_cons _ (jK (.slnil))))) 9 8 (.string (gP s sa ep rp)) <| qZ ?_
       refine rV 1 <| nT <| au_then <| wp_seq <| sq <| cF <| wp_skip <| au_then <| sR <| rV 1 <| ZE M 63 2 1 <| pl_callg M (want_no rfl) (some 64) rfl 36 #[.string (gS4 s sa ep rp).c, .string zb, .int .i64 2] (fun g cap => .tuple #[.slice (some ⟨g, 0, none⟩) 2 cap, .int .i64 0]) (fun cap Y => SB Y cap (Bla.vtx (Bla.txt ((gS4 s sa ep rp).c) ⟨#[]⟩) 2)) (fun _ => by kernel_rfl) (fun w M => Bla.d_ch ((gS4 s sa ep rp).c) ⟨#[]⟩ (by decide) (gS4_c _ _ _) 2 (by decide) (by decide) w M.laid) ?_
       intro g4 cpg4 Zg4 u14 hZg4 M
       refine rV 5 <| nT <| wp_seq <| rgh M [⟨g1, .cells (av 6 (tm s [sa, ep, ob])) 35⟩, ⟨g3, .cells (av 3 (tl (gS4 s sa ep rp))) 33⟩, ⟨g4, Zg4⟩] 13 fun u15 M => ?_
       have qM := M.drop (jC (jK (jC (.cons_cons _ (.slnil)))))
       refine qV qM 0 67 (pJ g1 5) <| qE qM 1 68 0 5 <| qV qM 2 69 (.string (gP s sa ep rp)) <| qV qM 3 70 (.slice (some ⟨g4, 0, none⟩) 2 cpg4) <| qV qM 4 71 (pJ g4) <| qC qM 5 72 g4 0 (.string (nxA ((gS4 s sa ep rp).c) ⟨#[]⟩)) (fun w M => hZg4.cell (M.get 2 rfl) (Bla.vtx_get _ 2 0 (by decide))) <| qV qM 6 73 (.slice (some ⟨g4, 0, none⟩) 2 cpg4) <| qV qM 7 74 (pJ g4 1) <| qC qM 8 75 g4 1 (.string (nxB ((gS4 s sa ep rp).c) ⟨#[]⟩)) (fun w M => hZg4.cell (M.get 2 rfl) (Bla.vtx_get _ 2 1 (by decide))) <| qV qM 9 76 (pJ g3) <| qE qM 10 77 1 0 <| qV qM 11 78 (.agg (av 5 (sQ [ob, gP s sa ep rp, nxA ((gS4 s sa ep rp).c) ⟨#[]⟩, nxB ((gS4 s sa ep rp).c) ⟨#[]⟩, (gS4 s sa ep rp).h]))) <| qO 12 ?_
       refine ZL M 1 5 (sQ [ob, gP s sa ep rp, nxA ((gS4 s sa ep rp).c) ⟨#[]⟩, nxB ((gS4 s sa ep rp).c) ⟨#[]⟩, (gS4 s sa ep rp).h]) fun u16 M => nT ?_
       refine ⟨(M.drop (jC (jK (jC (.cons_cons _ (.slnil)))))), ?_⟩
       refine qZ ?_
       refine rV 1 <| nT <| au_then <| wp_ret ?_
       have e0 : fiE s sa ep rp = 0 := by simp only [fiE, fS4_e _ _ _ h0, if_neg c0, if_neg c1, if_neg c2, if_neg c3, if_pos c4]
       exact bct Tryz.results18 M 1 5 (sQ [ob, gP s sa ep rp, nxA ((gS4 s sa ep rp).c) ⟨#[]⟩, nxB ((gS4 s sa ep rp).c) ⟨#[]⟩, (gS4 s sa ep rp).h]) (.int .i64 0) ⟨below_grown M.old, .inr ⟨e0, rfl⟩⟩
      ·refine pD M 53 (.tuple #[.agg (av 3 (tl (gS3 s sa ep rp))), .string zb, .int .i64 100]) (fun w M => d_openB (gS3 s sa ep rp) (fC rp) (gS3_h _ _ _) (gS3_k _ _ _) (by rw [fC_size (by omega)]; omega) (by rw [fC_size (by omega)]; omega) c4 w M.laid) fun u12 M => ?_
       refine nT ?_
       refine ⟨(M.drop (jC (.cons_cons _ (jK (.slnil))))), ?_⟩
       have qM := M.drop (jC (.cons_cons _ (jK (.slnil))))
       refine qV qM 4 49 (.tuple #[.agg (av 3 (tl (gS3 s sa ep rp))), .string zb, .int .i64 100]) <| qV qM 5 54 (.agg (av 3 (tl (gS3 s sa ep rp)))) <| qV qM 6 55 (.string zb) <| qV qM 7 56 (.int .i64 100) <| qO 8 ?_
       refine ZL M 2 3 (tl (gS3 s sa ep rp)) fun u13 M => nT ?_
       refine ⟨(M.drop (jC (.cons_cons _ (jK (.slnil))))), ?_⟩
       refine qV (M.drop (jC (.cons_cons _ (jK (.slnil))))) 9 8 (.string zb) <| qZ ?_
       refine rV 1 <| nT <| au_then <| wp_seq <| sq <| cT <| sR <| rV 2 <| ZL M 1 5 (zq 5) fun u14 M => rV 1 <| nT <| wp_ret <| au_then_ret ?_
       have e0 : fiE s sa ep rp = 100 := by simp only [fiE, fS4_e _ _ _ h0, if_neg c0, if_neg c1, if_neg c2, if_neg c3, if_neg c4]
       exact bct Tryz.results18 M 1 5 (zq 5) (.int .i64 100) ⟨below_grown M.old, .inl ⟨by rw [e0]; decide, by rw [e0]⟩⟩
    have s5 : ∀ (a : Act) (l : Array Bool) (g3 : Nat) (w0 : World), a = (fm ([.agg (av 6 (tm s [sa, ep, ob])), .string rp, pJ g1, slt a 3, pJ g2, .int .i64 0, pJ g3] ++ vr (slt a) 7 12 ++ [.tuple #[.agg (av 3 (tl (gS2 s ep rp))), .int .i64 0], pJ g1, .agg (av 3 (tl s)), .string rp, .string (rE rp), .agg (av 3 (tl (fS1 s rp))), pJ g1 4, .string ep, .string rp, .string (rE rp), .tuple #[.agg (av 3 (tl (gS2 s ep rp))), .int .i64 0], .agg (av 3 (tl (gS2 s ep rp))), .int .i64 0] ++ vr (slt a) 32 47)) → l = #[true, true, true, true, true, true, true, true, true, true, true, true, true, true, false, false] → Mem ⟨w, []⟩ [⟨g1, .cells (av 6 (tm s [sa, ep, ob])) 35⟩, ⟨g2, .cells (av 5 (zq 5)) 41⟩, ⟨g3, .cells (av 3 (zq 3)) 33⟩] w0 → H 2 l a w0 := by
     intro a l g3  u0 ha hl M
     generalize slt a = v at ha
     subst ha hl
     refine hB _ _ _ _ <| qO 14 ?_
     refine ZL M 2 3 (tl (gS2 s ep rp)) fun u7 M => nT ?_
     refine ⟨(M.drop (jC (.cons_cons _ (jK (.slnil))))), ?_⟩
     exact hA _ _ _ _ (s6 _ _ g3 _ (by kernel_rfl) (by kernel_rfl) M)
    have s3 : ∀ (a : Act) (l : Array Bool) (w0 : World), a = (fm ([.agg (av 6 (tm s [sa, ep, ob])), .string rp, pJ g1, slt a 3, pJ g2, .int .i64 0] ++ vr (slt a) 6 13 ++ [.tuple #[.agg (av 3 (tl (gS2 s ep rp))), .int .i64 0], pJ g1, .agg (av 3 (tl s)), .string rp, .string (rE rp), .agg (av 3 (tl (fS1 s rp))), pJ g1 4, .string ep, .string rp, .string (rE rp), .tuple #[.agg (av 3 (tl (gS2 s ep rp))), .int .i64 0], .agg (av 3 (tl (gS2 s ep rp))), .int .i64 0] ++ vr (slt a) 32 47)) → l = #[true, true, true, true, true, true, true, true, true, true, true, true, true, false, false, false] → Mem ⟨w, []⟩ [⟨g1, .cells (av 6 (tm s [sa, ep, ob])) 35⟩, ⟨g2, .cells (av 5 (zq 5)) 41⟩] w0 → H 3 l a w0 := by
     intro a l   u0 ha hl M
     generalize slt a = v at ha
     subst ha hl
     refine hB _ _ _ _ <| qO 13 ?_
     refine pN M 6 (.cells (av 3 (zq 3)) 33) fun g3 u6 M => nT ?_
     refine ⟨(M.drop (jC (.cons_cons _ (jK (.slnil))))), ?_⟩
     exact hA _ _ _ _ (s5 _ _ g3 _ (by kernel_rfl) (by kernel_rfl) M)
    have s4 : ∀ (a : Act) (l : Array Bool) (g3 : Nat) (w0 : World), a = (fm ([.agg (av 6 (tm s [sa, ep, ob])), .string rp, pJ g1, slt a 3, pJ g2, .int .i64 0, pJ g3] ++ vr (slt a) 7 13 ++ [pJ g1, .agg (av 3 (tl s)), .string rp, .string (rE rp), .agg (av 3 (tl (fS1 s rp))), pJ g1 4, .string ep, .string rp, .string (rE rp)] ++ vr (slt a) 29 50)) → l = #[true, true, true, true, true, true, true, true, true, false, false, false, false, true, false, false] → Mem ⟨w, []⟩ [⟨g1, .cells (av 6 (tm s [sa, ep, ob])) 35⟩, ⟨g2, .cells (av 5 (zq 5)) 41⟩, ⟨g3, .cells (av 3 (zq 3)) 33⟩] w0 → H 6 l a w0 := by
     intro a l g3  u0 ha hl M
     generalize slt a = v at ha
     subst ha hl
     refine hB _ _ _ _ <| qO 9 ?_
     refine ZC M 29 (fun w M => d_addN (fS1 s rp) ep (rE rp) (by omega) (rE_size (by omega)) (mixF_cs hc) c2 w M.laid) fun u6 M => nT ?_
     refine ⟨(M.drop (jC (.cons_cons _ (jK (.slnil))))), ?_⟩
     have qM := M.drop (jC (.cons_cons _ (jK (.slnil))))
     refine qV qM 10 19 (.tuple #[.agg (av 3 (tl (gS2 s ep rp))), .int .i64 0]) <| qV qM 11 30 (.agg (av 3 (tl (gS2 s ep rp)))) <| qV qM 12 31 (.int .i64 0) ?_
     exact hA _ _ _ _ (s5 _ _ g3 _ (by kernel_rfl) (by kernel_rfl) M)
    have s1 : ∀ (a : Act) (l : Array Bool) (w0 : World), a = (fm ([.agg (av 6 (tm s [sa, ep, ob])), .string rp, pJ g1, slt a 3, pJ g2, .int .i64 0] ++ vr (slt a) 6 14 ++ [pJ g1, .agg (av 3 (tl s)), .string rp, .string (rE rp), .agg (av 3 (tl (fS1 s rp))), pJ g1 4, .string ep, .string rp, .string (rE rp)] ++ vr (slt a) 29 50)) → l = #[true, true, true, true, true, true, true, true, true, false, false, false, false, false, false, false] → Mem ⟨w, []⟩ [⟨g1, .cells (av 6 (tm s [sa, ep, ob])) 35⟩, ⟨g2, .cells (av 5 (zq 5)) 41⟩] w0 → H 7 l a w0 := by
     intro a l   u0 ha hl M
     generalize slt a = v at ha
     subst ha hl
     refine hB _ _ _ _ ?_
     refine hl_two 9 13 (by decide) (by decide) (by kernel_rfl) rfl rfl ?_ ?_
     ·refine ZC M 29 (fun w M => d_addN (fS1 s rp) ep (rE rp) (by omega) (rE_size (by omega)) (mixF_cs hc) c2 w M.laid) fun u5 M => nT ?_
      refine ⟨M, ?_⟩
      refine qV M 10 19 (.tuple #[.agg (av 3 (tl (gS2 s ep rp))), .int .i64 0]) <| qV M 11 30 (.agg (av 3 (tl (gS2 s ep rp)))) <| qV M 12 31 (.int .i64 0) ?_
      exact hA _ _ _ _ (s3 _ _  _ (by kernel_rfl) (by kernel_rfl) M)
     ·refine pN M 6 (.cells (av 3 (zq 3)) 33) fun g3 u5 M => nT ?_
      refine ⟨(M.drop (jC (.cons_cons _ (jK (.slnil))))), ?_⟩
      exact hA _ _ _ _ (s4 _ _ g3 _ (by kernel_rfl) (by kernel_rfl) M)
    have s2 : ∀ (a : Act) (l : Array Bool) (g3 : Nat) (w0 : World), a = (fm ([.agg (av 6 (tm s [sa, ep, ob])), .string rp, pJ g1, slt a 3, pJ g2, .int .i64 0, pJ g3] ++ vr (slt a) 7 13 ++ [pJ g1, .agg (av 3 (tl s)), .string rp, .string (rE rp), slt a 24, pJ g1 4, .string ep, .string rp, .string (rE rp)] ++ vr (slt a) 29 50)) → l = #[true, true, true, true, false, true, true, true, true, false, false, false, false, true, false, false] → Mem ⟨w, []⟩ [⟨g1, .cells (av 6 (tm s [sa, ep, ob])) 35⟩, ⟨g2, .cells (av 5 (zq 5)) 41⟩, ⟨g3, .cells (av 3 (zq 3)) 33⟩] w0 → H 7 l a w0 := by
     intro a l g3  u0 ha hl M
     generalize slt a = v at ha
     subst ha hl
     refine hB _ _ _ _ <| qO 4 ?_
     refine ZC M 24 (fun w M => d_mix s (rE rp) (by rw [hs, rE_size (by omega)]; decide) w M.laid) fun u5 M => ?_
     refine nT ?_
     refine ⟨(M.drop (jC (.cons_cons _ (jK (.slnil))))), ?_⟩
     exact hA _ _ _ _ (s4 _ _ g3 _ (by kernel_rfl) (by kernel_rfl) M)
    have s0 : ∀ (a : Act) (l : Array Bool) (w0 : World), a = (fm ([.agg (av 6 (tm s [sa, ep, ob])), .string rp, pJ g1, slt a 3, pJ g2, .int .i64 0] ++ vr (slt a) 6 14 ++ [pJ g1, .agg (av 3 (tl s)), .string rp, .string (rE rp), slt a 24, pJ g1 4, .string ep, .string rp, .string (rE rp)] ++ vr (slt a) 29 50)) → l = #[true, true, true, true, false, true, true, true, true, false, false, false, false, false, false, false] → Mem ⟨w, []⟩ [⟨g1, .cells (av 6 (tm s [sa, ep, ob])) 35⟩, ⟨g2, .cells (av 5 (zq 5)) 41⟩] w0 → H 8 l a w0 := by
     intro a l   u0 ha hl M
     generalize slt a = v at ha
     subst ha hl
     refine hB _ _ _ _ ?_
     refine hl_two 4 13 (by decide) (by decide) (by kernel_rfl) rfl rfl ?_ ?_
     ·refine ZC M 24 (fun w M => d_mix s (rE rp) (by rw [hs, rE_size (by omega)]; decide) w M.laid) fun u4 M => ?_
      refine nT ?_
      refine ⟨M, ?_⟩
      exact hA _ _ _ _ (s1 _ _  _ (by kernel_rfl) (by kernel_rfl) M)
     ·refine pN M 6 (.cells (av 3 (zq 3)) 33) fun g3 u4 M => nT ?_
      refine ⟨(M.drop (jC (.cons_cons _ (jK (.slnil))))), ?_⟩
      exact hA _ _ _ _ (s2 _ _ g3 _ (by kernel_rfl) (by kernel_rfl) M)
    exact s0 _ _  _ (by kernel_rfl) (by kernel_rfl) M
end Go.Proofs.YtffimigpbcilbaaGreatDoor
