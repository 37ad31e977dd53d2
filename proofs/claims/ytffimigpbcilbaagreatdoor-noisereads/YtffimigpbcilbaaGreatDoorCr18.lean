/- Part 18 of the walks and facts. -/
import Derived.Test.YtffimigpbcilbaaGreatDoorCrDef
import Derived.Test.YtffimigpbcilbaaGreatDoorCr17
import Derived.Carry
import Derived.Lay
import Derived.OpenShut
import Derived.ProofKit
import Derived.ShutString
import Derived.SizedLaws
import Derived.Test.YtffimigpbcilbaaGreatDoorTie
set_option maxHeartbeats 16000000
set_option maxRecDepth 100000
set_option linter.unusedSimpArgs false
namespace Go.Proofs.YtffimigpbcilbaaGreatDoor
open Go.RowKit
theorem mixF_cs {s : St} {t : Yb} (h : s.c.size < 100000) : (mixF s t).c.size < 100000 := by
 unfold mixF
 exact h
theorem gS2_c {s : St} (e r : Yb) : (gS2 s e r).c.size < 100000 := by
 show (nxA _ _).size < 100000
 rw [nxA_size]
 decide
theorem gS3_h {s : St} (a e r : Yb) : (gS3 s a e r).h.size = 32 := by
 show (mixF s (rE r)).h.size = 32
 exact mixF_h _ _
theorem gS3_k {s : St} (a e r : Yb) : (gS3 s a e r).k.size = 32 := adN_k (gS2 s e r) _
theorem gS4_c {s : St} (a e r : Yb) : (gS4 s a e r).c.size < 100000 := by
 show (nxA _ _).size < 100000
 rw [nxA_size]
 decide
theorem d_Finish (s : St) (sa ep ob rp : Yb) (h0 : s.e = 0) (hs : s.h.size = 32) (hc : s.c.size < 100000) (ha : sa.size = 32) (hp : ep.size = 32) (w : World) (hL : Laid w) : Calls Tryz.prog 18 #[.agg (av 6 (tm s [sa, ep, ob])), .string rp] w fun r w' => Below w.heap.size w w' ∧ ((fiE s sa ep rp ≠ 0 ∧ r = .returned (.tuple #[.agg (av 5 (zq 5)), .int .i64 (fiE s sa ep rp)])) ∨ (fiE s sa ep rp = 0 ∧ r = .returned (.tuple #[.agg (av 5 (sQ [ob, gP s sa ep rp, nxA (gS4 s sa ep rp).c ⟨#[]⟩, nxB (gS4 s sa ep rp).c ⟨#[]⟩, (gS4 s sa ep rp).h])), .int .i64 0]))) := by
 go_enter Tryz.func18, Tryz.ntmps18
 have M := Mem.start hL
 refine sR <| pN M 2 (.cells (av 6 (tm s [sa, ep, ob])) 35) fun g1 u1 M => pN M 4 (.cells (av 5 (zq 5)) 41) fun g2 u2 M => rV 1 <| nT <| wp_seq <| sR <| rV 2 ?_
 by_cases c0 : 4144 < (rp.size : Int)
 ·refine wT 13 c0 <| nT <| cT <| sR <| rV 1 <| ZL M 1 5 (zq 5) fun u3 M => rV 1 <| nT <| wp_ret <| au_then_ret ?_
  have e0 : fiE s sa ep rp = 4 := by simp only [fiE, fS4_e _ _ _ h0, if_pos c0]
  exact bct Tryz.results18 M 1 5 (zq 5) (.int .i64 4) ⟨below_grown M.old, .inl ⟨by rw [e0]; decide, by rw [e0]⟩⟩
 ·refine wF 13 c0 <| nT <| cF <| wp_skip <| au_then <| wp_seq <| sR <| rV 2 ?_
  by_cases c1 : (rp.size : Int) < 48
  ·refine wT 17 c1 <| nT <| cT <| sR <| rV 1 <| ZL M 1 5 (zq 5) fun u3 M => rV 1 <| nT <| wp_ret <| au_then_ret ?_
   have e0 : fiE s sa ep rp = 7 := by simp only [fiE, fS4_e _ _ _ h0, if_neg c0, if_pos c1]
   exact bct Tryz.results18 M 1 5 (zq 5) (.int .i64 7) ⟨below_grown M.old, .inl ⟨by rw [e0]; decide, by rw [e0]⟩⟩
  ·refine wF 17 c1 <| nT <| cF <| wp_skip <| au_then <| wp_seq <| rgh M [⟨g1, .cells (av 6 (tm s [sa, ep, ob])) 35⟩, ⟨g2, .cells (av 5 (zq 5)) 41⟩] 15 fun u3 M => qV M 0 20 (.pointer (some ⟨g1, 0, none⟩)) <| hl_load M 1 rfl (by decide) (by kernel_rfl) (by kernel_rfl) (want_no rfl) (some 21) rfl 33 _ rfl 0 g1 0 (by kernel_rfl) 6 35 (tm s [sa, ep, ob]) rfl 3 (tl s) (part_ls _ 0 3 _ rfl) (by decide) _ Tryz.underlying33 rfl inz33 <| qV M 2 22 (.string rp) ?_
   by_cases c2 : shN ep (rE rp) = 0
   ·refine qH M 3 23 (.string (rE rp)) (fun w _ => (run_strh 9 Tryz.underlying9 _ _ rfl rp (by kernel_rfl) .i64 32 (by kernel_rfl) (by omega) _ rfl) w) <| qV M 5 25 (.pointer (some ⟨g1, 4, none⟩)) <| qE M 6 26 0 4 <| qV M 7 27 (.string rp) <| qH M 8 28 (.string (rE rp)) (fun w _ => (run_strh 9 Tryz.underlying9 _ _ rfl rp (by kernel_rfl) .i64 32 (by kernel_rfl) (by omega) _ rfl) w) <| hl_name ?_
    intro H hA hB
    have s6 : ∀ (a : Act) (l : Array Bool) (g3 : Nat) (w0 : World), a = (fm ([.agg (av 6 (tm s [sa, ep, ob])), .string rp, .pointer (some ⟨g1, 0, none⟩), slt a 3, .pointer (some ⟨g2, 0, none⟩), .int .i64 0, .pointer (some ⟨g3, 0, none⟩)] ++ vr (slt a) 7 12 ++ [.tuple #[.agg (av 3 (tl (fS1 s rp))), .int .i64 30], .pointer (some ⟨g1, 0, none⟩), .agg (av 3 (tl s)), .string rp, .string (rE rp), .agg (av 3 (tl (fS1 s rp))), .pointer (some ⟨g1, 4, none⟩), .string ep, .string rp, .string (rE rp), .tuple #[.agg (av 3 (tl (fS1 s rp))), .int .i64 30], .agg (av 3 (tl (fS1 s rp))), .int .i64 30] ++ vr (slt a) 32 47)) → l = #[true, true, true, true, true, true, true, true, true, true, true, true, true, true, true, false] → Mem ⟨w, []⟩ [⟨g1, .cells (av 6 (tm s [sa, ep, ob])) 35⟩, ⟨g2, .cells (av 5 (zq 5)) 41⟩, ⟨g3, .cells (av 3 (tl (fS1 s rp))) 33⟩] w0 → H 1 l a w0 := by
     intro a l g3  u0 ha hl M
     generalize slt a = v at ha
     subst ha hl
     refine hB _ _ _ _ <| qZ ?_
     refine rV 1 <| nT <| au_then <| wp_seq <| sq <| cT <| sR <| rV 2 <| ZL M 1 5 (zq 5) fun u8 M => rV 1 <| nT <| wp_ret <| au_then_ret ?_
     have e0 : fiE s sa ep rp = 30 := by simp only [fiE, fS4_e _ _ _ h0, if_neg c0, if_neg c1, if_pos c2]
     exact bct Tryz.results18 M 1 5 (zq 5) (.int .i64 30) ⟨below_grown M.old, .inl ⟨by rw [e0]; decide, by rw [e0]⟩⟩
    have s5 : ∀ (a : Act) (l : Array Bool) (g3 : Nat) (w0 : World), a = (fm ([.agg (av 6 (tm s [sa, ep, ob])), .string rp, .pointer (some ⟨g1, 0, none⟩), slt a 3, .pointer (some ⟨g2, 0, none⟩), .int .i64 0, .pointer (some ⟨g3, 0, none⟩)] ++ vr (slt a) 7 12 ++ [.tuple #[.agg (av 3 (tl (fS1 s rp))), .int .i64 30], .pointer (some ⟨g1, 0, none⟩), .agg (av 3 (tl s)), .string rp, .string (rE rp), .agg (av 3 (tl (fS1 s rp))), .pointer (some ⟨g1, 4, none⟩), .string ep, .string rp, .string (rE rp), .tuple #[.agg (av 3 (tl (fS1 s rp))), .int .i64 30], .agg (av 3 (tl (fS1 s rp))), .int .i64 30] ++ vr (slt a) 32 47)) → l = #[true, true, true, true, true, true, true, true, true, true, true, true, true, true, false, false] → Mem ⟨w, []⟩ [⟨g1, .cells (av 6 (tm s [sa, ep, ob])) 35⟩, ⟨g2, .cells (av 5 (zq 5)) 41⟩, ⟨g3, .cells (av 3 (zq 3)) 33⟩] w0 → H 2 l a w0 := by
     intro a l g3  u0 ha hl M
     generalize slt a = v at ha
     subst ha hl
     refine hB _ _ _ _ <| qO 14 ?_
     refine ZL M 2 3 (tl (fS1 s rp)) fun u7 M => nT ?_
     refine ⟨(M.drop (.cons_cons _ (.cons_cons _ (.cons _ (.slnil))))), ?_⟩
     exact hA _ _ _ _ (s6 _ _ g3 _ (by kernel_rfl) (by kernel_rfl) M)
    have s3 : ∀ (a : Act) (l : Array Bool) (w0 : World), a = (fm ([.agg (av 6 (tm s [sa, ep, ob])), .string rp, .pointer (some ⟨g1, 0, none⟩), slt a 3, .pointer (some ⟨g2, 0, none⟩), .int .i64 0] ++ vr (slt a) 6 13 ++ [.tuple #[.agg (av 3 (tl (fS1 s rp))), .int .i64 30], .pointer (some ⟨g1, 0, none⟩), .agg (av 3 (tl s)), .string rp, .string (rE rp), .agg (av 3 (tl (fS1 s rp))), .pointer (some ⟨g1, 4, none⟩), .string ep, .string rp, .string (rE rp), .tuple #[.agg (av 3 (tl (fS1 s rp))), .int .i64 30], .agg (av 3 (tl (fS1 s rp))), .int .i64 30] ++ vr (slt a) 32 47)) → l = #[true, true, true, true, true, true, true, true, true, true, true, true, true, false, false, false] → Mem ⟨w, []⟩ [⟨g1, .cells (av 6 (tm s [sa, ep, ob])) 35⟩, ⟨g2, .cells (av 5 (zq 5)) 41⟩] w0 → H 3 l a w0 := by
     intro a l   u0 ha hl M
     generalize slt a = v at ha
     subst ha hl
     refine hB _ _ _ _ <| qO 13 ?_
     refine pN M 6 (.cells (av 3 (zq 3)) 33) fun g3 u6 M => nT ?_
     refine ⟨(M.drop (.cons_cons _ (.cons_cons _ (.cons _ (.slnil))))), ?_⟩
     exact hA _ _ _ _ (s5 _ _ g3 _ (by kernel_rfl) (by kernel_rfl) M)
    have s4 : ∀ (a : Act) (l : Array Bool) (g3 : Nat) (w0 : World), a = (fm ([.agg (av 6 (tm s [sa, ep, ob])), .string rp, .pointer (some ⟨g1, 0, none⟩), slt a 3, .pointer (some ⟨g2, 0, none⟩), .int .i64 0, .pointer (some ⟨g3, 0, none⟩)] ++ vr (slt a) 7 13 ++ [.pointer (some ⟨g1, 0, none⟩), .agg (av 3 (tl s)), .string rp, .string (rE rp), .agg (av 3 (tl (fS1 s rp))), .pointer (some ⟨g1, 4, none⟩), .string ep, .string rp, .string (rE rp)] ++ vr (slt a) 29 50)) → l = #[true, true, true, true, true, true, true, true, true, false, false, false, false, true, false, false] → Mem ⟨w, []⟩ [⟨g1, .cells (av 6 (tm s [sa, ep, ob])) 35⟩, ⟨g2, .cells (av 5 (zq 5)) 41⟩, ⟨g3, .cells (av 3 (zq 3)) 33⟩] w0 → H 6 l a w0 := by
     intro a l g3  u0 ha hl M
     generalize slt a = v at ha
     subst ha hl
     refine hB _ _ _ _ <| qO 9 ?_
     refine ZC M 29 (fun w M => d_addZ (fS1 s rp) ep (rE rp) (by omega) (rE_size (by omega)) (mixF_cs hc) c2 w M.laid) fun u6 M => nT ?_
     refine ⟨(M.drop (.cons_cons _ (.cons_cons _ (.cons _ (.slnil))))), ?_⟩
     have qM := M.drop (.cons_cons _ (.cons_cons _ (.cons _ (.slnil))))
     refine qV qM 10 19 (.tuple #[.agg (av 3 (tl (fS1 s rp))), .int .i64 30]) <| qV qM 11 30 (.agg (av 3 (tl (fS1 s rp)))) <| qV qM 12 31 (.int .i64 30) ?_
     exact hA _ _ _ _ (s5 _ _ g3 _ (by kernel_rfl) (by kernel_rfl) M)
    have s1 : ∀ (a : Act) (l : Array Bool) (w0 : World), a = (fm ([.agg (av 6 (tm s [sa, ep, ob])), .string rp, .pointer (some ⟨g1, 0, none⟩), slt a 3, .pointer (some ⟨g2, 0, none⟩), .int .i64 0] ++ vr (slt a) 6 14 ++ [.pointer (some ⟨g1, 0, none⟩), .agg (av 3 (tl s)), .string rp, .string (rE rp), .agg (av 3 (tl (fS1 s rp))), .pointer (some ⟨g1, 4, none⟩), .string ep, .string rp, .string (rE rp)] ++ vr (slt a) 29 50)) → l = #[true, true, true, true, true, true, true, true, true, false, false, false, false, false, false, false] → Mem ⟨w, []⟩ [⟨g1, .cells (av 6 (tm s [sa, ep, ob])) 35⟩, ⟨g2, .cells (av 5 (zq 5)) 41⟩] w0 → H 7 l a w0 := by
     intro a l   u0 ha hl M
     generalize slt a = v at ha
     subst ha hl
     refine hB _ _ _ _ ?_
     refine hl_two 9 13 (by decide) (by decide) (by kernel_rfl) rfl rfl ?_ ?_
     ·refine ZC M 29 (fun w M => d_addZ (fS1 s rp) ep (rE rp) (by omega) (rE_size (by omega)) (mixF_cs hc) c2 w M.laid) fun u5 M => nT ?_
      refine ⟨M, ?_⟩
      refine qV M 10 19 (.tuple #[.agg (av 3 (tl (fS1 s rp))), .int .i64 30]) <| qV M 11 30 (.agg (av 3 (tl (fS1 s rp)))) <| qV M 12 31 (.int .i64 30) ?_
      exact hA _ _ _ _ (s3 _ _  _ (by kernel_rfl) (by kernel_rfl) M)
     ·refine pN M 6 (.cells (av 3 (zq 3)) 33) fun g3 u5 M => nT ?_
      refine ⟨(M.drop (.cons_cons _ (.cons_cons _ (.cons _ (.slnil))))), ?_⟩
      exact hA _ _ _ _ (s4 _ _ g3 _ (by kernel_rfl) (by kernel_rfl) M)
    have s2 : ∀ (a : Act) (l : Array Bool) (g3 : Nat) (w0 : World), a = (fm ([.agg (av 6 (tm s [sa, ep, ob])), .string rp, .pointer (some ⟨g1, 0, none⟩), slt a 3, .pointer (some ⟨g2, 0, none⟩), .int .i64 0, .pointer (some ⟨g3, 0, none⟩)] ++ vr (slt a) 7 13 ++ [.pointer (some ⟨g1, 0, none⟩), .agg (av 3 (tl s)), .string rp, .string (rE rp), slt a 24, .pointer (some ⟨g1, 4, none⟩), .string ep, .string rp, .string (rE rp)] ++ vr (slt a) 29 50)) → l = #[true, true, true, true, false, true, true, true, true, false, false, false, false, true, false, false] → Mem ⟨w, []⟩ [⟨g1, .cells (av 6 (tm s [sa, ep, ob])) 35⟩, ⟨g2, .cells (av 5 (zq 5)) 41⟩, ⟨g3, .cells (av 3 (zq 3)) 33⟩] w0 → H 7 l a w0 := by
     intro a l g3  u0 ha hl M
     generalize slt a = v at ha
     subst ha hl
     refine hB _ _ _ _ <| qO 4 ?_
     refine ZC M 24 (fun w M => d_mix s (rE rp) (by rw [hs, rE_size (by omega)]; decide) w M.laid) fun u5 M => ?_
     refine nT ?_
     refine ⟨(M.drop (.cons_cons _ (.cons_cons _ (.cons _ (.slnil))))), ?_⟩
     exact hA _ _ _ _ (s4 _ _ g3 _ (by kernel_rfl) (by kernel_rfl) M)
    have s0 : ∀ (a : Act) (l : Array Bool) (w0 : World), a = (fm ([.agg (av 6 (tm s [sa, ep, ob])), .string rp, .pointer (some ⟨g1, 0, none⟩), slt a 3, .pointer (some ⟨g2, 0, none⟩), .int .i64 0] ++ vr (slt a) 6 14 ++ [.pointer (some ⟨g1, 0, none⟩), .agg (av 3 (tl s)), .string rp, .string (rE rp), slt a 24, .pointer (some ⟨g1, 4, none⟩), .string ep, .string rp, .string (rE rp)] ++ vr (slt a) 29 50)) → l = #[true, true, true, true, false, true, true, true, true, false, false, false, false, false, false, false] → Mem ⟨w, []⟩ [⟨g1, .cells (av 6 (tm s [sa, ep, ob])) 35⟩, ⟨g2, .cells (av 5 (zq 5)) 41⟩] w0 → H 8 l a w0 := by
     intro a l   u0 ha hl M
     generalize slt a = v at ha
     subst ha hl
     refine hB _ _ _ _ ?_
     refine hl_two 4 13 (by decide) (by decide) (by kernel_rfl) rfl rfl ?_ ?_
     ·refine ZC M 24 (fun w M => d_mix s (rE rp) (by rw [hs, rE_size (by omega)]; decide) w M.laid) fun u4 M => ?_
      refine nT ?_
      refine ⟨M, ?_⟩
      exact hA _ _ _ _ (s1 _ _  _ (by kernel_rfl) (by kernel_rfl) M)
     ·refine pN M 6 (.cells (av 3 (zq 3)) 33) fun g3 u4 M => nT ?_
      refine ⟨(M.drop (.cons_cons _ (.cons_cons _ (.cons _ (.slnil))))), ?_⟩
      exact hA _ _ _ _ (s2 _ _ g3 _ (by kernel_rfl) (by kernel_rfl) M)
    exact s0 _ _  _ (by kernel_rfl) (by kernel_rfl) M
   ·refine qH M 3 23 (.string (rE rp)) (fun w _ => (run_strh 9 Tryz.underlying9 _ _ rfl rp (by kernel_rfl) .i64 32 (by kernel_rfl) (by omega) _ rfl) w) <| qV M 5 25 (.pointer (some ⟨g1, 4, none⟩)) <| qE M 6 26 0 4 <| qV M 7 27 (.string rp) <| qH M 8 28 (.string (rE rp)) (fun w _ => (run_strh 9 Tryz.underlying9 _ _ rfl rp (by kernel_rfl) .i64 32 (by kernel_rfl) (by omega) _ rfl) w) <| hl_name ?_
    intro H hA hB
    have s6 : ∀ (a : Act) (l : Array Bool) (g3 : Nat) (w0 : World), a = (fm ([.agg (av 6 (tm s [sa, ep, ob])), .string rp, .pointer (some ⟨g1, 0, none⟩), slt a 3, .pointer (some ⟨g2, 0, none⟩), .int .i64 0, .pointer (some ⟨g3, 0, none⟩)] ++ vr (slt a) 7 12 ++ [.tuple #[.agg (av 3 (tl (gS2 s ep rp))), .int .i64 0], .pointer (some ⟨g1, 0, none⟩), .agg (av 3 (tl s)), .string rp, .string (rE rp), .agg (av 3 (tl (fS1 s rp))), .pointer (some ⟨g1, 4, none⟩), .string ep, .string rp, .string (rE rp), .tuple #[.agg (av 3 (tl (gS2 s ep rp))), .int .i64 0], .agg (av 3 (tl (gS2 s ep rp))), .int .i64 0] ++ vr (slt a) 32 47)) → l = #[true, true, true, true, true, true, true, true, true, true, true, true, true, true, true, false] → Mem ⟨w, []⟩ [⟨g1, .cells (av 6 (tm s [sa, ep, ob])) 35⟩, ⟨g2, .cells (av 5 (zq 5)) 41⟩, ⟨g3, .cells (av 3 (tl (gS2 s ep rp))) 33⟩] w0 → H 1 l a w0 := by
     intro a l g3  u0 ha hl M
     generalize slt a = v at ha
     subst ha hl
     refine hB _ _ _ _ <| qZ ?_
     refine rV 1 <| nT <| au_then <| wp_seq <| sq <| cF <| wp_skip <| au_then <| wp_seq <| rgh M [⟨g1, .cells (av 6 (tm s [sa, ep, ob])) 35⟩, ⟨g2, .cells (av 5 (zq 5)) 41⟩] 10 fun u8 M => ?_
     have qM := M.drop (.cons_cons _ (.cons_cons _ (.cons _ (.slnil))))
     refine qV qM 1 38 (.pointer (some ⟨g1, 3, none⟩)) <| qE qM 2 39 0 3 <| qV qM 3 40 (.string rp) <| qH qM 4 41 (.string (rE rp)) (fun w _ => (run_strh 9 Tryz.underlying9 _ _ rfl rp (by kernel_rfl) .i64 32 (by kernel_rfl) (by omega) _ rfl) w) <| qO 0 ?_
     refine pA M 37 2 3 (tl (gS2 s ep rp)) <| nT ?_
     refine ⟨(M.drop (.cons_cons _ (.cons_cons _ (.cons _ (.slnil))))), ?_⟩
     refine qO 5 ?_
     by_cases c3 : shN sa (rE rp) = 0
     ·refine pD M 42 (.tuple #[.agg (av 3 (tl (gS2 s ep rp))), .int .i64 30]) (fun w M => d_addZ (gS2 s ep rp) sa (rE rp) (by omega) (rE_size (by omega)) (gS2_c _ _) c3 w M.laid) fun u9 M => nT ?_
      refine ⟨(M.drop (.cons_cons _ (.cons_cons _ (.cons _ (.slnil))))), ?_⟩
      have qM := M.drop (.cons_cons _ (.cons_cons _ (.cons _ (.slnil))))
      refine qV qM 6 36 (.tuple #[.agg (av 3 (tl (gS2 s ep rp))), .int .i64 30]) <| qV qM 7 43 (.agg (av 3 (tl (gS2 s ep rp)))) <| qV qM 8 44 (.int .i64 30) <| qO 9 ?_
      refine ZL M 2 3 (tl (gS2 s ep rp)) fun u10 M => nT ?_
      refine ⟨(M.drop (.cons_cons _ (.cons_cons _ (.cons _ (.slnil))))), ?_⟩
      refine qZ ?_
      refine rV 1 <| nT <| au_then <| wp_seq <| sq <| cT <| sR <| rV 2 <| ZL M 1 5 (zq 5) fun u11 M => rV 1 <| nT <| wp_ret <| au_then_ret ?_
      have e0 : fiE s sa ep rp = 30 := by simp only [fiE, fS4_e _ _ _ h0, if_neg c0, if_neg c1, if_neg c2, if_pos c3]
      exact bct Tryz.results18 M 1 5 (zq 5) (.int .i64 30) ⟨below_grown M.old, .inl ⟨by rw [e0]; decide, by rw [e0]⟩⟩
     ·refine pD M 42 (.tuple #[.agg (av 3 (tl (gS3 s sa ep rp))), .int .i64 0]) (fun w M => d_addN (gS2 s ep rp) sa (rE rp) (by omega) (rE_size (by omega)) (gS2_c _ _) c3 w M.laid) fun u9 M => nT ?_
      refine ⟨(M.drop (.cons_cons _ (.cons_cons _ (.cons _ (.slnil))))), ?_⟩
      have qM := M.drop (.cons_cons _ (.cons_cons _ (.cons _ (.slnil))))
      refine qV qM 6 36 (.tuple #[.agg (av 3 (tl (gS3 s sa ep rp))), .int .i64 0]) <| qV qM 7 43 (.agg (av 3 (tl (gS3 s sa ep rp)))) <| qV qM 8 44 (.int .i64 0) <| qO 9 ?_
      refine ZL M 2 3 (tl (gS3 s sa ep rp)) fun u10 M => nT ?_
      refine ⟨(M.drop (.cons_cons _ (.cons_cons _ (.cons _ (.slnil))))), ?_⟩
      refine qZ ?_
      refine rV 1 <| nT <| au_then <| wp_seq <| sq <| cF <| wp_skip <| au_then <| wp_seq <| rgh M [⟨g1, .cells (av 6 (tm s [sa, ep, ob])) 35⟩, ⟨g2, .cells (av 5 (zq 5)) 41⟩] 10 fun u11 M => ?_
      have qM := M.drop (.cons_cons _ (.cons_cons _ (.cons _ (.slnil))))
      refine qV qM 1 51 (.string rp) <| qH qM 2 52 (.string (fC rp)) (fun w _ => (run_strl 9 Tryz.underlying9 _ _ rfl rp (by kernel_rfl) .i64 32 (by kernel_rfl) (by omega) _ rfl) w) <| qO 0 ?_
      refine pA M 50 2 3 (tl (gS3 s sa ep rp)) <| nT ?_
      refine ⟨(M.drop (.cons_cons _ (.cons_cons _ (.cons _ (.slnil))))), ?_⟩
      refine qO 3 ?_
      by_cases c4 : tagOk (gS3 s sa ep rp) (fC rp)
      ·refine pD M 53 (.tuple #[.agg (av 3 (tl (gS4 s sa ep rp))), .string (gP s sa ep rp), .int .i64 0]) (fun w M => d_openA (gS3 s sa ep rp) (fC rp) (gS3_h _ _ _) (gS3_k _ _ _) (by rw [fC_size (by omega)]; omega) (by rw [fC_size (by omega)]; omega) c4 w M.laid) fun u12 M => ?_
       refine nT ?_
       refine ⟨(M.drop (.cons_cons _ (.cons_cons _ (.cons _ (.slnil))))), ?_⟩
       have qM := M.drop (.cons_cons _ (.cons_cons _ (.cons _ (.slnil))))
       refine qV qM 4 49 (.tuple #[.agg (av 3 (tl (gS4 s sa ep rp))), .string (gP s sa ep rp), .int .i64 0]) <| qV qM 5 54 (.agg (av 3 (tl (gS4 s sa ep rp)))) <| qV qM 6 55 (.string (gP s sa ep rp)) <| qV qM 7 56 (.int .i64 0) <| qO 8 ?_
       refine ZL M 2 3 (tl (gS4 s sa ep rp)) fun u13 M => nT ?_
       refine ⟨(M.drop (.cons_cons _ (.cons_cons _ (.cons _ (.slnil))))), ?_⟩
       refine qV (M.drop (.cons_cons _ (.cons_cons _ (.cons _ (.slnil))))) 9 8 (.string (gP s sa ep rp)) <| qZ ?_
       refine rV 1 <| nT <| au_then <| wp_seq <| sq <| cF <| wp_skip <| au_then <| sR <| rV 1 <| ZE M 63 2 1 <| pl_callg M (want_no rfl) (some 64) rfl 36 #[.string (gS4 s sa ep rp).c, .string zb, .int .i64 2] (fun g cap => .tuple #[.slice (some ⟨g, 0, none⟩) 2 cap, .int .i64 0]) (fun cap Y => SB Y cap (Bla.vtx (Bla.txt ((gS4 s sa ep rp).c) ⟨#[]⟩) 2)) (fun _ => by kernel_rfl) (fun w M => Bla.d_ch ((gS4 s sa ep rp).c) ⟨#[]⟩ (by decide) (gS4_c _ _ _) 2 (by decide) (by decide) w M.laid) ?_
       intro g4 cpg4 Zg4 u14 hZg4 M
       refine rV 5 <| nT <| wp_seq <| rgh M [⟨g1, .cells (av 6 (tm s [sa, ep, ob])) 35⟩, ⟨g3, .cells (av 3 (tl (gS4 s sa ep rp))) 33⟩, ⟨g4, Zg4⟩] 13 fun u15 M => ?_
       have qM := M.drop (.cons_cons _ (.cons _ (.cons_cons _ (.cons_cons _ (.slnil)))))
       refine qV qM 0 67 (.pointer (some ⟨g1, 5, none⟩)) <| qE qM 1 68 0 5 <| qV qM 2 69 (.string (gP s sa ep rp)) <| qV qM 3 70 (.slice (some ⟨g4, 0, none⟩) 2 cpg4) <| qV qM 4 71 (.pointer (some ⟨g4, 0, none⟩)) <| qC qM 5 72 g4 0 (.string (nxA ((gS4 s sa ep rp).c) ⟨#[]⟩)) (fun w M => hZg4.cell (M.get 2 rfl) (Bla.vtx_get _ 2 0 (by decide))) <| qV qM 6 73 (.slice (some ⟨g4, 0, none⟩) 2 cpg4) <| qV qM 7 74 (.pointer (some ⟨g4, 1, none⟩)) <| qC qM 8 75 g4 1 (.string (nxB ((gS4 s sa ep rp).c) ⟨#[]⟩)) (fun w M => hZg4.cell (M.get 2 rfl) (Bla.vtx_get _ 2 1 (by decide))) <| qV qM 9 76 (.pointer (some ⟨g3, 0, none⟩)) <| qE qM 10 77 1 0 <| qV qM 11 78 (.agg (av 5 (sQ [ob, gP s sa ep rp, nxA ((gS4 s sa ep rp).c) ⟨#[]⟩, nxB ((gS4 s sa ep rp).c) ⟨#[]⟩, (gS4 s sa ep rp).h]))) <| qO 12 ?_
       refine ZL M 1 5 (sQ [ob, gP s sa ep rp, nxA ((gS4 s sa ep rp).c) ⟨#[]⟩, nxB ((gS4 s sa ep rp).c) ⟨#[]⟩, (gS4 s sa ep rp).h]) fun u16 M => nT ?_
       refine ⟨(M.drop (.cons_cons _ (.cons _ (.cons_cons _ (.cons_cons _ (.slnil)))))), ?_⟩
       refine qZ ?_
       refine rV 1 <| nT <| au_then <| wp_ret ?_
       have e0 : fiE s sa ep rp = 0 := by simp only [fiE, fS4_e _ _ _ h0, if_neg c0, if_neg c1, if_neg c2, if_neg c3, if_pos c4]
       exact bct Tryz.results18 M 1 5 (sQ [ob, gP s sa ep rp, nxA ((gS4 s sa ep rp).c) ⟨#[]⟩, nxB ((gS4 s sa ep rp).c) ⟨#[]⟩, (gS4 s sa ep rp).h]) (.int .i64 0) ⟨below_grown M.old, .inr ⟨e0, rfl⟩⟩
      ·refine pD M 53 (.tuple #[.agg (av 3 (tl (gS3 s sa ep rp))), .string zb, .int .i64 100]) (fun w M => d_openB (gS3 s sa ep rp) (fC rp) (gS3_h _ _ _) (gS3_k _ _ _) (by rw [fC_size (by omega)]; omega) (by rw [fC_size (by omega)]; omega) c4 w M.laid) fun u12 M => ?_
       refine nT ?_
       refine ⟨(M.drop (.cons_cons _ (.cons_cons _ (.cons _ (.slnil))))), ?_⟩
       have qM := M.drop (.cons_cons _ (.cons_cons _ (.cons _ (.slnil))))
       refine qV qM 4 49 (.tuple #[.agg (av 3 (tl (gS3 s sa ep rp))), .string zb, .int .i64 100]) <| qV qM 5 54 (.agg (av 3 (tl (gS3 s sa ep rp)))) <| qV qM 6 55 (.string zb) <| qV qM 7 56 (.int .i64 100) <| qO 8 ?_
       refine ZL M 2 3 (tl (gS3 s sa ep rp)) fun u13 M => nT ?_
       refine ⟨(M.drop (.cons_cons _ (.cons_cons _ (.cons _ (.slnil))))), ?_⟩
       refine qV (M.drop (.cons_cons _ (.cons_cons _ (.cons _ (.slnil))))) 9 8 (.string zb) <| qZ ?_
       refine rV 1 <| nT <| au_then <| wp_seq <| sq <| cT <| sR <| rV 2 <| ZL M 1 5 (zq 5) fun u14 M => rV 1 <| nT <| wp_ret <| au_then_ret ?_
       have e0 : fiE s sa ep rp = 100 := by simp only [fiE, fS4_e _ _ _ h0, if_neg c0, if_neg c1, if_neg c2, if_neg c3, if_neg c4]
       exact bct Tryz.results18 M 1 5 (zq 5) (.int .i64 100) ⟨below_grown M.old, .inl ⟨by rw [e0]; decide, by rw [e0]⟩⟩
    have s5 : ∀ (a : Act) (l : Array Bool) (g3 : Nat) (w0 : World), a = (fm ([.agg (av 6 (tm s [sa, ep, ob])), .string rp, .pointer (some ⟨g1, 0, none⟩), slt a 3, .pointer (some ⟨g2, 0, none⟩), .int .i64 0, .pointer (some ⟨g3, 0, none⟩)] ++ vr (slt a) 7 12 ++ [.tuple #[.agg (av 3 (tl (gS2 s ep rp))), .int .i64 0], .pointer (some ⟨g1, 0, none⟩), .agg (av 3 (tl s)), .string rp, .string (rE rp), .agg (av 3 (tl (fS1 s rp))), .pointer (some ⟨g1, 4, none⟩), .string ep, .string rp, .string (rE rp), .tuple #[.agg (av 3 (tl (gS2 s ep rp))), .int .i64 0], .agg (av 3 (tl (gS2 s ep rp))), .int .i64 0] ++ vr (slt a) 32 47)) → l = #[true, true, true, true, true, true, true, true, true, true, true, true, true, true, false, false] → Mem ⟨w, []⟩ [⟨g1, .cells (av 6 (tm s [sa, ep, ob])) 35⟩, ⟨g2, .cells (av 5 (zq 5)) 41⟩, ⟨g3, .cells (av 3 (zq 3)) 33⟩] w0 → H 2 l a w0 := by
     intro a l g3  u0 ha hl M
     generalize slt a = v at ha
     subst ha hl
     refine hB _ _ _ _ <| qO 14 ?_
     refine ZL M 2 3 (tl (gS2 s ep rp)) fun u7 M => nT ?_
     refine ⟨(M.drop (.cons_cons _ (.cons_cons _ (.cons _ (.slnil))))), ?_⟩
     exact hA _ _ _ _ (s6 _ _ g3 _ (by kernel_rfl) (by kernel_rfl) M)
    have s3 : ∀ (a : Act) (l : Array Bool) (w0 : World), a = (fm ([.agg (av 6 (tm s [sa, ep, ob])), .string rp, .pointer (some ⟨g1, 0, none⟩), slt a 3, .pointer (some ⟨g2, 0, none⟩), .int .i64 0] ++ vr (slt a) 6 13 ++ [.tuple #[.agg (av 3 (tl (gS2 s ep rp))), .int .i64 0], .pointer (some ⟨g1, 0, none⟩), .agg (av 3 (tl s)), .string rp, .string (rE rp), .agg (av 3 (tl (fS1 s rp))), .pointer (some ⟨g1, 4, none⟩), .string ep, .string rp, .string (rE rp), .tuple #[.agg (av 3 (tl (gS2 s ep rp))), .int .i64 0], .agg (av 3 (tl (gS2 s ep rp))), .int .i64 0] ++ vr (slt a) 32 47)) → l = #[true, true, true, true, true, true, true, true, true, true, true, true, true, false, false, false] → Mem ⟨w, []⟩ [⟨g1, .cells (av 6 (tm s [sa, ep, ob])) 35⟩, ⟨g2, .cells (av 5 (zq 5)) 41⟩] w0 → H 3 l a w0 := by
     intro a l   u0 ha hl M
     generalize slt a = v at ha
     subst ha hl
     refine hB _ _ _ _ <| qO 13 ?_
     refine pN M 6 (.cells (av 3 (zq 3)) 33) fun g3 u6 M => nT ?_
     refine ⟨(M.drop (.cons_cons _ (.cons_cons _ (.cons _ (.slnil))))), ?_⟩
     exact hA _ _ _ _ (s5 _ _ g3 _ (by kernel_rfl) (by kernel_rfl) M)
    have s4 : ∀ (a : Act) (l : Array Bool) (g3 : Nat) (w0 : World), a = (fm ([.agg (av 6 (tm s [sa, ep, ob])), .string rp, .pointer (some ⟨g1, 0, none⟩), slt a 3, .pointer (some ⟨g2, 0, none⟩), .int .i64 0, .pointer (some ⟨g3, 0, none⟩)] ++ vr (slt a) 7 13 ++ [.pointer (some ⟨g1, 0, none⟩), .agg (av 3 (tl s)), .string rp, .string (rE rp), .agg (av 3 (tl (fS1 s rp))), .pointer (some ⟨g1, 4, none⟩), .string ep, .string rp, .string (rE rp)] ++ vr (slt a) 29 50)) → l = #[true, true, true, true, true, true, true, true, true, false, false, false, false, true, false, false] → Mem ⟨w, []⟩ [⟨g1, .cells (av 6 (tm s [sa, ep, ob])) 35⟩, ⟨g2, .cells (av 5 (zq 5)) 41⟩, ⟨g3, .cells (av 3 (zq 3)) 33⟩] w0 → H 6 l a w0 := by
     intro a l g3  u0 ha hl M
     generalize slt a = v at ha
     subst ha hl
     refine hB _ _ _ _ <| qO 9 ?_
     refine ZC M 29 (fun w M => d_addN (fS1 s rp) ep (rE rp) (by omega) (rE_size (by omega)) (mixF_cs hc) c2 w M.laid) fun u6 M => nT ?_
     refine ⟨(M.drop (.cons_cons _ (.cons_cons _ (.cons _ (.slnil))))), ?_⟩
     have qM := M.drop (.cons_cons _ (.cons_cons _ (.cons _ (.slnil))))
     refine qV qM 10 19 (.tuple #[.agg (av 3 (tl (gS2 s ep rp))), .int .i64 0]) <| qV qM 11 30 (.agg (av 3 (tl (gS2 s ep rp)))) <| qV qM 12 31 (.int .i64 0) ?_
     exact hA _ _ _ _ (s5 _ _ g3 _ (by kernel_rfl) (by kernel_rfl) M)
    have s1 : ∀ (a : Act) (l : Array Bool) (w0 : World), a = (fm ([.agg (av 6 (tm s [sa, ep, ob])), .string rp, .pointer (some ⟨g1, 0, none⟩), slt a 3, .pointer (some ⟨g2, 0, none⟩), .int .i64 0] ++ vr (slt a) 6 14 ++ [.pointer (some ⟨g1, 0, none⟩), .agg (av 3 (tl s)), .string rp, .string (rE rp), .agg (av 3 (tl (fS1 s rp))), .pointer (some ⟨g1, 4, none⟩), .string ep, .string rp, .string (rE rp)] ++ vr (slt a) 29 50)) → l = #[true, true, true, true, true, true, true, true, true, false, false, false, false, false, false, false] → Mem ⟨w, []⟩ [⟨g1, .cells (av 6 (tm s [sa, ep, ob])) 35⟩, ⟨g2, .cells (av 5 (zq 5)) 41⟩] w0 → H 7 l a w0 := by
     intro a l   u0 ha hl M
     generalize slt a = v at ha
     subst ha hl
     refine hB _ _ _ _ ?_
     refine hl_two 9 13 (by decide) (by decide) (by kernel_rfl) rfl rfl ?_ ?_
     ·refine ZC M 29 (fun w M => d_addN (fS1 s rp) ep (rE rp) (by omega) (rE_size (by omega)) (mixF_cs hc) c2 w M.laid) fun u5 M => nT ?_
      refine ⟨M, ?_⟩
      refine qV M 10 19 (.tuple #[.agg (av 3 (tl (gS2 s ep rp))), .int .i64 0]) <| qV M 11 30 (.agg (av 3 (tl (gS2 s ep rp)))) <| qV M 12 31 (.int .i64 0) ?_
      exact hA _ _ _ _ (s3 _ _  _ (by kernel_rfl) (by kernel_rfl) M)
     ·refine pN M 6 (.cells (av 3 (zq 3)) 33) fun g3 u5 M => nT ?_
      refine ⟨(M.drop (.cons_cons _ (.cons_cons _ (.cons _ (.slnil))))), ?_⟩
      exact hA _ _ _ _ (s4 _ _ g3 _ (by kernel_rfl) (by kernel_rfl) M)
    have s2 : ∀ (a : Act) (l : Array Bool) (g3 : Nat) (w0 : World), a = (fm ([.agg (av 6 (tm s [sa, ep, ob])), .string rp, .pointer (some ⟨g1, 0, none⟩), slt a 3, .pointer (some ⟨g2, 0, none⟩), .int .i64 0, .pointer (some ⟨g3, 0, none⟩)] ++ vr (slt a) 7 13 ++ [.pointer (some ⟨g1, 0, none⟩), .agg (av 3 (tl s)), .string rp, .string (rE rp), slt a 24, .pointer (some ⟨g1, 4, none⟩), .string ep, .string rp, .string (rE rp)] ++ vr (slt a) 29 50)) → l = #[true, true, true, true, false, true, true, true, true, false, false, false, false, true, false, false] → Mem ⟨w, []⟩ [⟨g1, .cells (av 6 (tm s [sa, ep, ob])) 35⟩, ⟨g2, .cells (av 5 (zq 5)) 41⟩, ⟨g3, .cells (av 3 (zq 3)) 33⟩] w0 → H 7 l a w0 := by
     intro a l g3  u0 ha hl M
     generalize slt a = v at ha
     subst ha hl
     refine hB _ _ _ _ <| qO 4 ?_
     refine ZC M 24 (fun w M => d_mix s (rE rp) (by rw [hs, rE_size (by omega)]; decide) w M.laid) fun u5 M => ?_
     refine nT ?_
     refine ⟨(M.drop (.cons_cons _ (.cons_cons _ (.cons _ (.slnil))))), ?_⟩
     exact hA _ _ _ _ (s4 _ _ g3 _ (by kernel_rfl) (by kernel_rfl) M)
    have s0 : ∀ (a : Act) (l : Array Bool) (w0 : World), a = (fm ([.agg (av 6 (tm s [sa, ep, ob])), .string rp, .pointer (some ⟨g1, 0, none⟩), slt a 3, .pointer (some ⟨g2, 0, none⟩), .int .i64 0] ++ vr (slt a) 6 14 ++ [.pointer (some ⟨g1, 0, none⟩), .agg (av 3 (tl s)), .string rp, .string (rE rp), slt a 24, .pointer (some ⟨g1, 4, none⟩), .string ep, .string rp, .string (rE rp)] ++ vr (slt a) 29 50)) → l = #[true, true, true, true, false, true, true, true, true, false, false, false, false, false, false, false] → Mem ⟨w, []⟩ [⟨g1, .cells (av 6 (tm s [sa, ep, ob])) 35⟩, ⟨g2, .cells (av 5 (zq 5)) 41⟩] w0 → H 8 l a w0 := by
     intro a l   u0 ha hl M
     generalize slt a = v at ha
     subst ha hl
     refine hB _ _ _ _ ?_
     refine hl_two 4 13 (by decide) (by decide) (by kernel_rfl) rfl rfl ?_ ?_
     ·refine ZC M 24 (fun w M => d_mix s (rE rp) (by rw [hs, rE_size (by omega)]; decide) w M.laid) fun u4 M => ?_
      refine nT ?_
      refine ⟨M, ?_⟩
      exact hA _ _ _ _ (s1 _ _  _ (by kernel_rfl) (by kernel_rfl) M)
     ·refine pN M 6 (.cells (av 3 (zq 3)) 33) fun g3 u4 M => nT ?_
      refine ⟨(M.drop (.cons_cons _ (.cons_cons _ (.cons _ (.slnil))))), ?_⟩
      exact hA _ _ _ _ (s2 _ _ g3 _ (by kernel_rfl) (by kernel_rfl) M)
    exact s0 _ _  _ (by kernel_rfl) (by kernel_rfl) M
open Go.RowKit
theorem bg0 {a b e pr pl : Yb} (h : bgE a b e pr pl = 0) : a.size = 32 ∧ b.size = 32 ∧ e.size = 32 ∧ ¬ shN e b = 0 ∧ ¬ shN a b = 0 := by
 unfold bgE at h
 rw [bS5_e] at h
 by_cases h1 : (a.size : Int) = 32
 ·rw [if_pos h1] at h
  by_cases h2 : (b.size : Int) = 32
  ·rw [if_pos h2] at h
   by_cases h3 : (e.size : Int) = 32
   ·rw [if_pos h3] at h
    refine ⟨by omega, by omega, by omega, fun k => ?_, fun k => ?_⟩
    ·rw [if_pos k] at h
     split at h
     ·exact absurd h (by decide)
     ·split at h <;> exact absurd h (by decide)
    ·rw [if_pos k, ite_self] at h
     split at h
     ·exact absurd h (by decide)
     ·split at h <;> exact absurd h (by decide)
   ·rw [if_neg h3] at h
    exact absurd h (by decide)
  ·rw [if_neg h2] at h
   exact absurd h (by decide)
 ·rw [if_neg h1] at h
  exact absurd h (by decide)
theorem rd0 {b pr m : Yb} (h : rdE b pr m = 0) : b.size = 32 ∧ 96 ≤ m.size ∧ ¬ shN b (rE m) = 0 ∧ tagOk (uS2 b pr m) (rC1 m) ∧ ¬ shN b (uF b pr m) = 0 ∧ tagOk (uS4 b pr m) (rC2 m) := by
 unfold rdE at h
 rw [rS5_e] at h
 by_cases h1 : (b.size : Int) = 32
 ·rw [if_pos h1] at h
  by_cases h2 : 4096 < (pr.size : Int)
  ·rw [if_pos h2] at h
   exact absurd h (by decide)
  ·rw [if_neg h2] at h
   by_cases h3 : 4192 < (m.size : Int)
   ·rw [if_pos h3] at h
    exact absurd h (by decide)
   ·rw [if_neg h3] at h
    by_cases h4 : (m.size : Int) < 96
    ·rw [if_pos h4] at h
     exact absurd h (by decide)
    ·rw [if_neg h4] at h
     by_cases h5 : shN b (rE m) = 0
     ·rw [if_pos h5] at h
      exact absurd h (by decide)
     ·rw [if_neg h5] at h
      by_cases h6 : tagOk (uS2 b pr m) (rC1 m)
      ·rw [if_pos h6] at h
       by_cases h7 : shN b (uF b pr m) = 0
       ·rw [if_pos h7] at h
        exact absurd h (by decide)
       ·rw [if_neg h7] at h
        by_cases h8 : tagOk (uS4 b pr m) (rC2 m)
        ·exact ⟨by omega, by omega, h5, h6, h7, h8⟩
        ·rw [if_neg h8] at h
         exact absurd h (by decide)
      ·rw [if_neg h6] at h
       exact absurd h (by decide)
 ·rw [if_neg h1] at h
  exact absurd h (by decide)
section
variable {s : St}
theorem fi0 {a e r : Yb} (h0 : s.e = 0) (h : fiE s a e r = 0) : ¬ shN e (rE r) = 0 ∧ ¬ shN a (rE r) = 0 ∧ tagOk (gS3 s a e r) (fC r) := by
 unfold fiE at h
 rw [fS4_e _ _ _ h0] at h
 split at h
 ·exact absurd h (by decide)
 ·split at h
  ·exact absurd h (by decide)
  ·split at h
   ·exact absurd h (by decide)
   ·rename_i k1
    split at h
    ·exact absurd h (by decide)
    ·rename_i k2
     split at h
     ·rename_i k3
      exact ⟨k1, k2, k3⟩
     ·exact absurd h (by decide)
theorem gS3_end (a e r : Yb) : gS3 (endF s) a e r = gS3 s a e r := by
 have h : gS2 (endF s) e r = gS2 s e r := by simp only [gS2, fS1, mixF, adN, endF]
 unfold gS3
 rw [h]
theorem gP_end (a e r : Yb) : gP (endF s) a e r = gP s a e r := by
 unfold gP
 rw [gS3_end]
theorem gS4_end (a e r : Yb) : gS4 (endF s) a e r = gS4 s a e r := by
 unfold gS4
 rw [gS3_end]
theorem end_e (h0 : s.e = 0) : (endF s).e = 0 := h0
theorem fiE_end {a e r : Yb} (h0 : s.e = 0) : fiE (endF s) a e r = fiE s a e r := by
 unfold fiE
 rw [fS4_e _ _ _ (end_e h0), fS4_e _ _ _ h0, gS3_end]
end
theorem tS5_hs (a b e pr pl : Yb) : (tS5 a b e pr pl).h.size = 32 := mixF_h (tS4 a b e pr) (tX2 a b e pr pl)
theorem tS5_cs (a b e pr pl : Yb) : (tS5 a b e pr pl).c.size < 100000 := mixF_cs (by show (nxA _ _).size < 100000; rw [nxA_size]; decide)
theorem b_O (a b e pr pl : Yb) (h : bgE a b e pr pl = 0) (w : World) (hL : Laid w) : Calls Tryz.prog 10 #[.string a, .string b, .string e, .string pr, .string pl] w fun r w' => ∃ g, r = .returned (.tuple #[.pointer (some ⟨g, 0, none⟩), .string (tMs a b e pr pl), .int .i64 0]) ∧ w.heap.size ≤ g ∧ w'.heap[g]? = some (.cells (av 7 (stL (endF (tS5 a b e pr pl)) [.string a, .string e, .string b])) 66) ∧ Below w.heap.size w w' := by
 refine (c_BeginO a b e pr pl h w hL).mono fun r w' k => ?_
 obtain ⟨_, _, _, h1, h2⟩ := bg0 h
 rwa [bS5_t h1 h2, bMs_t h1 h2] at k
theorem db_O (a b e pr pl : Yb) (h : bgE a b e pr pl = 0) (w : World) (hL : Laid w) : Cs 11 #[.string a, .string b, .string e, .string pr, .string pl] w (.tuple #[.agg (av 6 (tm (tS5 a b e pr pl) [a, e, b])), .string (tMs a b e pr pl), .int .i64 0]) := by
 refine (d_Begin a b e pr pl w hL).mono fun r w' k => ?_
 obtain ⟨hb, ⟨h1, _⟩ | ⟨_, h2⟩⟩ := k
 ·exact absurd h h1
 ·exact ⟨h2, hb⟩
theorem db_E (a b e pr pl : Yb) (h : ¬ bgE a b e pr pl = 0) (w : World) (hL : Laid w) : Cs 11 #[.string a, .string b, .string e, .string pr, .string pl] w (.tuple #[.agg (av 6 (zq 6)), .string zb, .int .i64 (bgE a b e pr pl)]) := by
 refine (d_Begin a b e pr pl w hL).mono fun r w' k => ?_
 obtain ⟨hb, ⟨_, h1⟩ | ⟨h2, _⟩⟩ := k
 ·exact ⟨h1, hb⟩
 ·exact absurd h2 h
theorem r_O (b pr m : Yb) (h : rdE b pr m = 0) (w : World) (hL : Laid w) : Calls Tryz.prog 13 #[.string b, .string pr, .string m] w fun r w' => ∃ g, r = .returned (.tuple #[.pointer (some ⟨g, 0, none⟩), .agg (av 5 (sQ [uF b pr m, uP b pr m, zb, zb, zb])), .int .i64 0]) ∧ w.heap.size ≤ g ∧ w'.heap[g]? = some (.cells (av 6 (stL (endF (uS5 b pr m)) [.string (uF b pr m), .string (rE m)])) 77) ∧ Below w.heap.size w w' := by
 refine (c_ReadO b pr m h w hL).mono fun r w' k => ?_
 obtain ⟨_, _, h1, h2, h3, h4⟩ := rd0 h
 rwa [rF_u h1 h2, rP_u h1 h2 h3 h4, rS5_u h1 h2 h3 h4] at k
theorem dr_O (b pr m : Yb) (h : rdE b pr m = 0) (w : World) (hL : Laid w) : Cs 14 #[.string b, .string pr, .string m] w (.tuple #[.agg (av 5 (tm (uS5 b pr m) [uF b pr m, rE m])), .agg (av 5 (sQ [uF b pr m, uP b pr m, zb, zb, zb])), .int .i64 0]) := by
 refine (d_Read b pr m w hL).mono fun r w' k => ?_
 obtain ⟨hb, ⟨h1, _⟩ | ⟨_, h2⟩⟩ := k
 ·exact absurd h h1
 ·exact ⟨h2, hb⟩
theorem dr_E (b pr m : Yb) (h : ¬ rdE b pr m = 0) (w : World) (hL : Laid w) : Cs 14 #[.string b, .string pr, .string m] w (.tuple #[.agg (av 5 (zq 5)), .agg (av 5 (zq 5)), .int .i64 (rdE b pr m)]) := by
 refine (d_Read b pr m w hL).mono fun r w' k => ?_
 obtain ⟨hb, ⟨_, h1⟩ | ⟨h2, _⟩⟩ := k
 ·exact ⟨h1, hb⟩
 ·exact absurd h2 h
theorem df_O (s : St) (a e b r_ : Yb) (h0 : s.e = 0) (hs : s.h.size = 32) (hc : s.c.size < 100000) (ha : a.size = 32) (he : e.size = 32) (h : fiE s a e r_ = 0) (w : World) (hL : Laid w) : Cs 18 #[.agg (av 6 (tm s [a, e, b])), .string r_] w (.tuple #[.agg (av 5 (sQ [b, gP s a e r_, nxA (gS4 s a e r_).c ⟨#[]⟩, nxB (gS4 s a e r_).c ⟨#[]⟩, (gS4 s a e r_).h])), .int .i64 0]) := by
 refine (d_Finish s a e b r_ h0 hs hc ha he w hL).mono fun r w' k => ?_
 obtain ⟨hb, ⟨h1, _⟩ | ⟨_, h2⟩⟩ := k
 ·exact absurd h h1
 ·exact ⟨h2, hb⟩
theorem df_E (s : St) (a e b r_ : Yb) (h0 : s.e = 0) (hs : s.h.size = 32) (hc : s.c.size < 100000) (ha : a.size = 32) (he : e.size = 32) (h : ¬ fiE s a e r_ = 0) (w : World) (hL : Laid w) : Cs 18 #[.agg (av 6 (tm s [a, e, b])), .string r_] w (.tuple #[.agg (av 5 (zq 5)), .int .i64 (fiE s a e r_)]) := by
 refine (d_Finish s a e b r_ h0 hs hc ha he w hL).mono fun r w' k => ?_
 obtain ⟨hb, ⟨_, h1⟩ | ⟨h2, _⟩⟩ := k
 ·exact ⟨h1, hb⟩
 ·exact absurd h2 h
theorem f_O (g : Nat) (s : St) (a e b r_ : Yb) (h0 : s.e = 0) (hs : s.h.size = 32) (ha : a.size = 32) (he : e.size = 32) (h : fiE s a e r_ = 0) (w : World) (hL : Laid w) (hg : w.heap[g]? = some (.cells (av 7 (stL (endF s) [.string a, .string e, .string b])) 66)) (hn : 2 < g) : Cs 17 #[.pointer (some ⟨g, 0, none⟩), .string r_] w (.tuple #[.agg (av 5 (sQ [b, gP s a e r_, nxA (gS4 s a e r_).c ⟨#[]⟩, nxB (gS4 s a e r_).c ⟨#[]⟩, (gS4 s a e r_).h])), .int .i64 0]) := by
 refine (c_Finish g (endF s) a e b r_ hs ha he w hL hg hn).mono fun r w' k => ?_
 obtain ⟨hb, ⟨h1, _⟩ | ⟨_, h2⟩⟩ := k
 ·rw [fiE_end h0] at h1
  exact absurd h h1
 ·obtain ⟨k1, k2, k3⟩ := fi0 h0 h
  rw [fS4_g (end_e h0) k1 k2 (by rw [gS3_end]; exact k3), fP_g (end_e h0) k1 k2 (by rw [gS3_end]; exact k3), gP_end, gS4_end] at h2
  exact ⟨h2, hb⟩
theorem f_E (g : Nat) (s : St) (a e b r_ : Yb) (h0 : s.e = 0) (hs : s.h.size = 32) (ha : a.size = 32) (he : e.size = 32) (h : ¬ fiE s a e r_ = 0) (w : World) (hL : Laid w) (hg : w.heap[g]? = some (.cells (av 7 (stL (endF s) [.string a, .string e, .string b])) 66)) (hn : 2 < g) : Cs 17 #[.pointer (some ⟨g, 0, none⟩), .string r_] w (.tuple #[.agg (av 5 (zq 5)), .int .i64 (fiE s a e r_)]) := by
 refine (c_Finish g (endF s) a e b r_ hs ha he w hL hg hn).mono fun r w' k => ?_
 obtain ⟨hb, ⟨_, h1⟩ | ⟨h2, _⟩⟩ := k
 ·rw [fiE_end h0] at h1
  exact ⟨h1, hb⟩
 ·rw [fiE_end h0] at h2
  exact absurd h2 h
open Go.RowKit
theorem c_reads (ra rb re rf rp ro rt : Yb) (ag rl : Yb) (hz : ra.size + rb.size + re.size + rf.size + rp.size + ro.size + rt.size < 4611686018427387904) (w : World) (hL : Laid w)  : Cs 4 #[.agg (av 7 (sQ [ra, rb, re, rf, rp, ro, rt])), .string ag, .string rl] w (.bool true) := by
 go_enter Tryz.func4, Tryz.ntmps4
 have M := Mem.start hL
 refine sR <| pN M 3 (.cells (av 7 (sQ [ra, rb, re, rf, rp, ro, rt])) 23) fun g1 u1 M => rV 1 <| nT <| wp_seq <| sR <| pA M 20 0 7 (sQ [ra, rb, re, rf, rp, ro, rt]) ?_
 by_cases c0 : 1024 < ra.size + rb.size + re.size + rf.size + rp.size + ro.size + rt.size
 ·refine ZC M 21 (fun w M => c_longT ra rb re rf rp ro rt hz c0 w M.laid) fun u2 M => rV 10 <| nT <| cT <| sR <| ZC M 32 (fun w M => c_alive w M.laid) fun u3 M => rV 1 <| nT <| wp_ret <| au_then_ret ?_
  exact b1 M
 ·refine ZC M 21 (fun w M => c_longF ra rb re rf rp ro rt c0 w M.laid) fun u2 M => rV 3 ?_
  by_cases c1 : 8192 < (ag.size : Int)
  ·refine wT 25 c1 <| rV 6 <| nT <| cT <| sR <| ZC M 32 (fun w M => c_alive w M.laid) fun u3 M => rV 1 <| nT <| wp_ret <| au_then_ret ?_
   exact b1 M
  ·refine wF 25 c1 <| rV 4 ?_
   by_cases c2 : 8192 < (rl.size : Int)
   ·refine wT 30 c2 <| rV 1 <| nT <| cT <| sR <| ZC M 32 (fun w M => c_alive w M.laid) fun u3 M => rV 1 <| nT <| wp_ret <| au_then_ret ?_
    exact b1 M
   ·refine wF 30 c2 <| rV 1 <| nT <| cF <| wp_skip <| au_then <| sR <| rV 1 <| ZE M 35 0 1 <| rV 1 <| ZE M 37 0 4 <| rV 1 ?_
    by_cases c3 : (rdE rb rp ag) = 0
    ·refine pl_calln M (want_no rfl) (some 39) rfl 13 #[.string rb, .string rp, .string ag] (fun g2 => .tuple #[.pointer (some ⟨g2, 0, none⟩), .agg (av 5 (sQ [uF rb rp ag, uP rb rp ag, zb, zb, zb])), .int .i64 0]) (.cells (av 6 (stL (endF (uS5 rb rp ag)) [.string (uF rb rp ag), .string (rE ag)])) 77) (fun _ => by kernel_rfl) (fun w M => r_O rb rp ag c3 w M.laid) fun g2 u3 M => rV 4 <| pN M 8 (.cells (av 5 (zq 5)) 41) fun g3 u4 M => rV 1 <| ZL M 2 5 (sQ [uF rb rp ag, uP rb rp ag, zb, zb, zb]) fun u5 M => rV 1 <| nT <| sR <| rV 1 <| ZE M 45 0 1 <| rV 1 <| ZE M 47 0 4 <| rV 1 <| pD M 49 (.tuple #[.agg (av 5 (tm (uS5 rb rp ag) [uF rb rp ag, rE ag])), .agg (av 5 (sQ [uF rb rp ag, uP rb rp ag, zb, zb, zb])), .int .i64 0]) (fun w M => dr_O rb rp ag c3 w M.laid) fun u6 M => rV 4 <| pN M 10 (.cells (av 5 (zq 5)) 45) fun g4 u7 M => ?_
     refine pN M 11 (.cells (av 5 (zq 5)) 41) fun g5 u8 M => ZL M 3 5 (tm (uS5 rb rp ag) [uF rb rp ag, rE ag]) fun u9 M => ZL M 4 5 (sQ [uF rb rp ag, uP rb rp ag, zb, zb, zb]) fun u10 M => rV 1 <| nT <| wp_seq <| sR <| pA M 53 2 5 (sQ [uF rb rp ag, uP rb rp ag, zb, zb, zb]) <| pA M 54 4 5 (sQ [uF rb rp ag, uP rb rp ag, zb, zb, zb]) <| n41 55 (uF rb rp ag) (uP rb rp ag) zb zb zb <| rV 12 <| nT <| cF <| wp_skip <| au_then <| sR ?_
     refine rV 1 <| ZE M 70 0 1 ?_
     by_cases c4 : rb.size = 32
     ·refine pD M 71 (.tuple #[.string (puV rb), .int .i64 0]) (fun w M => Mon.rpubL rb w M.laid c4) fun u11 M => rV 5 <| nT <| sR <| rV 1 <| ZE M 76 0 0 <| rV 2 <| ZE M 79 0 2 <| rV 1 <| ZE M 81 0 4 <| rV 1 <| ZE M 83 0 5 ?_
      by_cases c5 : (bgE ra (puV rb) re rp ro) = 0
      ·refine pl_calln M (want_no rfl) (some 84) rfl 10 #[.string ra, .string (puV rb), .string re, .string rp, .string ro] (fun g6 => .tuple #[.pointer (some ⟨g6, 0, none⟩), .string (tMs ra (puV rb) re rp ro), .int .i64 0]) (.cells (av 7 (stL (endF (tS5 ra (puV rb) re rp ro)) [.string ra, .string re, .string (puV rb)])) 66) (fun _ => by kernel_rfl) (fun w M => b_O ra (puV rb) re rp ro c5 w M.laid) fun g6 u12 M => rV 7 <| nT <| sR <| rV 1 <| ZE M 90 0 0 <| rV 2 <| ZE M 93 0 2 <| rV 1 <| ZE M 95 0 4 <| rV 1 <| ZE M 97 0 5 <| pD M 98 (.tuple #[.agg (av 6 (tm (tS5 ra (puV rb) re rp ro) [ra, re, puV rb])), .string (tMs ra (puV rb) re rp ro), .int .i64 0]) (fun w M => db_O ra (puV rb) re rp ro c5 w M.laid) fun u13 M => rV 4 <| pN M 17 (.cells (av 6 (zq 6)) 35) fun g7 u14 M => ZL M 6 6 (tm (tS5 ra (puV rb) re rp ro) [ra, re, puV rb]) fun u15 M => ?_
       refine rV 2 <| nT <| wp_seq <| sq <| cF <| wp_skip <| au_then <| wp_seq <| sq <| cF <| wp_skip <| au_then <| sR <| rV 2 ?_
       by_cases c6 : (fiE (tS5 ra (puV rb) re rp ro) ra re rl) = 0
       ·refine pD M 115 (.tuple #[.agg (av 5 (sQ [puV rb, gP (tS5 ra (puV rb) re rp ro) ra re rl, nxA (gS4 (tS5 ra (puV rb) re rp ro) ra re rl).c ⟨#[]⟩, nxB (gS4 (tS5 ra (puV rb) re rp ro) ra re rl).c ⟨#[]⟩, (gS4 (tS5 ra (puV rb) re rp ro) ra re rl).h])), .int .i64 0]) (fun w M => f_O g6 (tS5 ra (puV rb) re rp ro) ra re (puV rb) rl rfl (tS5_hs _ _ _ _ _) (bg0 c5).1 (bg0 c5).2.2.1 c6 w M.laid (M.get 5 rfl) (M.ne0 5 rfl)) fun u16 M => rV 3 <| ZL M 2 5 (sQ [puV rb, gP (tS5 ra (puV rb) re rp ro) ra re rl, nxA (gS4 (tS5 ra (puV rb) re rp ro) ra re rl).c ⟨#[]⟩, nxB (gS4 (tS5 ra (puV rb) re rp ro) ra re rl).c ⟨#[]⟩, (gS4 (tS5 ra (puV rb) re rp ro) ra re rl).h]) fun u17 M => rV 1 <| nT <| sR <| pA M 119 6 6 (tm (tS5 ra (puV rb) re rp ro) [ra, re, puV rb]) <| rV 1 <| pD M 121 (.tuple #[.agg (av 5 (sQ [puV rb, gP (tS5 ra (puV rb) re rp ro) ra re rl, nxA (gS4 (tS5 ra (puV rb) re rp ro) ra re rl).c ⟨#[]⟩, nxB (gS4 (tS5 ra (puV rb) re rp ro) ra re rl).c ⟨#[]⟩, (gS4 (tS5 ra (puV rb) re rp ro) ra re rl).h])), .int .i64 0]) (fun w M => df_O (tS5 ra (puV rb) re rp ro) ra re (puV rb) rl rfl (tS5_hs _ _ _ _ _) (tS5_cs _ _ _ _ _) (bg0 c5).1 (bg0 c5).2.2.1 c6 w M.laid) fun u18 M => rV 3 <| ZL M 4 5 (sQ [puV rb, gP (tS5 ra (puV rb) re rp ro) ra re rl, nxA (gS4 (tS5 ra (puV rb) re rp ro) ra re rl).c ⟨#[]⟩, nxB (gS4 (tS5 ra (puV rb) re rp ro) ra re rl).c ⟨#[]⟩, (gS4 (tS5 ra (puV rb) re rp ro) ra re rl).h]) fun u19 M => rV 1 <| nT <| sR <| pA M 124 2 5 (sQ [puV rb, gP (tS5 ra (puV rb) re rp ro) ra re rl, nxA (gS4 (tS5 ra (puV rb) re rp ro) ra re rl).c ⟨#[]⟩, nxB (gS4 (tS5 ra (puV rb) re rp ro) ra re rl).c ⟨#[]⟩, (gS4 (tS5 ra (puV rb) re rp ro) ra re rl).h]) <| pA M 125 4 5 (sQ [puV rb, gP (tS5 ra (puV rb) re rp ro) ra re rl, nxA (gS4 (tS5 ra (puV rb) re rp ro) ra re rl).c ⟨#[]⟩, nxB (gS4 (tS5 ra (puV rb) re rp ro) ra re rl).c ⟨#[]⟩, (gS4 (tS5 ra (puV rb) re rp ro) ra re rl).h]) ?_
        refine z41 126 (puV rb) (gP (tS5 ra (puV rb) re rp ro) ra re rl) (nxA (gS4 (tS5 ra (puV rb) re rp ro) ra re rl).c ⟨#[]⟩) (nxB (gS4 (tS5 ra (puV rb) re rp ro) ra re rl).c ⟨#[]⟩) ((gS4 (tS5 ra (puV rb) re rp ro) ra re rl).h) <| rV 6 <| pl_call M (by kernel_rfl) (some 133) rfl 8 #[] (.bool true) (fun _ => by kernel_rfl) (fun w M => c_alive w M.laid) fun u20 M => rV 2 <| nT <| wp_ret ?_
        exact b1 M
       ·refine pD M 115 (.tuple #[.agg (av 5 (zq 5)), .int .i64 (fiE (tS5 ra (puV rb) re rp ro) ra re rl)]) (fun w M => f_E g6 (tS5 ra (puV rb) re rp ro) ra re (puV rb) rl rfl (tS5_hs _ _ _ _ _) (bg0 c5).1 (bg0 c5).2.2.1 c6 w M.laid (M.get 5 rfl) (M.ne0 5 rfl)) fun u16 M => rV 3 <| ZL M 2 5 (zq 5) fun u17 M => rV 1 <| nT <| sR <| pA M 119 6 6 (tm (tS5 ra (puV rb) re rp ro) [ra, re, puV rb]) <| rV 1 <| pD M 121 (.tuple #[.agg (av 5 (zq 5)), .int .i64 (fiE (tS5 ra (puV rb) re rp ro) ra re rl)]) (fun w M => df_E (tS5 ra (puV rb) re rp ro) ra re (puV rb) rl rfl (tS5_hs _ _ _ _ _) (tS5_cs _ _ _ _ _) (bg0 c5).1 (bg0 c5).2.2.1 c6 w M.laid) fun u18 M => rV 3 <| ZL M 4 5 (zq 5) fun u19 M => rV 1 <| nT <| sR <| pA M 124 2 5 (zq 5) <| pA M 125 4 5 (zq 5) ?_
        refine z41 126 zb zb zb zb zb <| rV 3 <| ZT 130 ((fiE (tS5 ra (puV rb) re rp ro) ra re rl) = (fiE (tS5 ra (puV rb) re rp ro) ra re rl)) <| rV 2 <| pl_call M (by kernel_rfl) (some 133) rfl 8 #[] (.bool true) (fun _ => by kernel_rfl) (fun w M => c_alive w M.laid) fun u20 M => rV 2 <| nT <| wp_ret ?_
        exact b1 M
      ·refine ZC M 84 (fun w M => c_BeginE ra (puV rb) re rp ro c5 w M.laid) fun u12 M => rV 7 <| nT <| sR <| rV 1 <| ZE M 90 0 0 <| rV 2 <| ZE M 93 0 2 <| rV 1 <| ZE M 95 0 4 <| rV 1 <| ZE M 97 0 5 <| pD M 98 (.tuple #[.agg (av 6 (zq 6)), .string zb, .int .i64 (bgE ra (puV rb) re rp ro)]) (fun w M => db_E ra (puV rb) re rp ro c5 w M.laid) fun u13 M => rV 4 <| pN M 17 (.cells (av 6 (zq 6)) 35) fun g6 u14 M => ZL M 5 6 (zq 6) fun u15 M => ?_
       refine rV 2 <| nT <| wp_seq <| sR <| rV 2 <| ZD 104 ((bgE ra (puV rb) re rp ro) = (bgE ra (puV rb) re rp ro)) <| nT <| cF <| wp_skip <| au_then <| wp_seq <| sR <| rV 1 <| wU 106 c5 <| nT <| cT ?_
       refine sR <| rV 3 <| pl_call M (by kernel_rfl) (some 110) rfl 8 #[] (.bool true) (fun _ => by kernel_rfl) (fun w M => c_alive w M.laid) fun u16 M => rV 2 <| nT <| wp_ret <| au_then_ret ?_
       exact b1 M
     ·refine pD M 71 (.tuple #[.string zb, .int .i64 2]) (fun w M => Mon.rpub_no rb w c4) fun u11 M => rV 5 <| nT <| sR <| rV 1 <| ZE M 76 0 0 <| rV 2 <| ZE M 79 0 2 <| rV 1 <| ZE M 81 0 4 <| rV 1 <| ZE M 83 0 5 ?_
      by_cases c5 : (bgE ra ⟨#[]⟩ re rp ro) = 0
      ·exact absurd (bg0 c5).2.1 (by decide)
      ·refine ZC M 84 (fun w M => c_BeginE ra ⟨#[]⟩ re rp ro c5 w M.laid) fun u12 M => rV 7 <| nT <| sR <| rV 1 <| ZE M 90 0 0 <| rV 2 <| ZE M 93 0 2 <| rV 1 <| ZE M 95 0 4 <| rV 1 <| ZE M 97 0 5 <| pD M 98 (.tuple #[.agg (av 6 (zq 6)), .string zb, .int .i64 (bgE ra ⟨#[]⟩ re rp ro)]) (fun w M => db_E ra ⟨#[]⟩ re rp ro c5 w M.laid) fun u13 M => rV 4 <| pN M 17 (.cells (av 6 (zq 6)) 35) fun g6 u14 M => ZL M 5 6 (zq 6) fun u15 M => ?_
       refine rV 2 <| nT <| wp_seq <| sR <| rV 2 <| ZD 104 ((bgE ra ⟨#[]⟩ re rp ro) = (bgE ra ⟨#[]⟩ re rp ro)) <| nT <| cF <| wp_skip <| au_then <| wp_seq <| sR <| rV 1 <| wU 106 c5 <| nT <| cT ?_
       refine sR <| rV 3 <| pl_call M (by kernel_rfl) (some 110) rfl 8 #[] (.bool true) (fun _ => by kernel_rfl) (fun w M => c_alive w M.laid) fun u16 M => rV 2 <| nT <| wp_ret <| au_then_ret ?_
       exact b1 M
    ·refine ZC M 39 (fun w M => c_ReadE rb rp ag c3 w M.laid) fun u3 M => rV 4 <| pN M 8 (.cells (av 5 (zq 5)) 41) fun g2 u4 M => rV 1 <| ZL M 1 5 (zq 5) fun u5 M => rV 1 <| nT <| sR <| rV 1 <| ZE M 45 0 1 <| rV 1 <| ZE M 47 0 4 <| rV 1 <| pD M 49 (.tuple #[.agg (av 5 (zq 5)), .agg (av 5 (zq 5)), .int .i64 (rdE rb rp ag)]) (fun w M => dr_E rb rp ag c3 w M.laid) fun u6 M => rV 4 <| pN M 10 (.cells (av 5 (zq 5)) 45) fun g3 u7 M => ?_
     refine pN M 11 (.cells (av 5 (zq 5)) 41) fun g4 u8 M => ZL M 2 5 (zq 5) fun u9 M => ZL M 3 5 (zq 5) fun u10 M => rV 1 <| nT <| wp_seq <| sR <| pA M 53 1 5 (zq 5) <| pA M 54 3 5 (zq 5) <| n41 55 zb zb zb zb zb <| rV 3 <| ZD 59 ((rdE rb rp ag) = (rdE rb rp ag)) <| rV 5 <| wU 65 c3 <| rV 2 <| nT ?_
     refine cF <| wp_skip <| au_then <| sR <| rV 1 <| ZE M 70 0 1 ?_
     by_cases c4 : rb.size = 32
     ·refine pD M 71 (.tuple #[.string (puV rb), .int .i64 0]) (fun w M => Mon.rpubL rb w M.laid c4) fun u11 M => rV 5 <| nT <| sR <| rV 1 <| ZE M 76 0 0 <| rV 2 <| ZE M 79 0 2 <| rV 1 <| ZE M 81 0 4 <| rV 1 <| ZE M 83 0 5 ?_
      by_cases c5 : (bgE ra (puV rb) re rp ro) = 0
      ·refine pl_calln M (want_no rfl) (some 84) rfl 10 #[.string ra, .string (puV rb), .string re, .string rp, .string ro] (fun g5 => .tuple #[.pointer (some ⟨g5, 0, none⟩), .string (tMs ra (puV rb) re rp ro), .int .i64 0]) (.cells (av 7 (stL (endF (tS5 ra (puV rb) re rp ro)) [.string ra, .string re, .string (puV rb)])) 66) (fun _ => by kernel_rfl) (fun w M => b_O ra (puV rb) re rp ro c5 w M.laid) fun g5 u12 M => rV 7 <| nT <| sR <| rV 1 <| ZE M 90 0 0 <| rV 2 <| ZE M 93 0 2 <| rV 1 <| ZE M 95 0 4 <| rV 1 <| ZE M 97 0 5 <| pD M 98 (.tuple #[.agg (av 6 (tm (tS5 ra (puV rb) re rp ro) [ra, re, puV rb])), .string (tMs ra (puV rb) re rp ro), .int .i64 0]) (fun w M => db_O ra (puV rb) re rp ro c5 w M.laid) fun u13 M => rV 4 <| pN M 17 (.cells (av 6 (zq 6)) 35) fun g6 u14 M => ZL M 5 6 (tm (tS5 ra (puV rb) re rp ro) [ra, re, puV rb]) fun u15 M => ?_
       refine rV 2 <| nT <| wp_seq <| sq <| cF <| wp_skip <| au_then <| wp_seq <| sq <| cF <| wp_skip <| au_then <| sR <| rV 2 ?_
       by_cases c6 : (fiE (tS5 ra (puV rb) re rp ro) ra re rl) = 0
       ·refine pD M 115 (.tuple #[.agg (av 5 (sQ [puV rb, gP (tS5 ra (puV rb) re rp ro) ra re rl, nxA (gS4 (tS5 ra (puV rb) re rp ro) ra re rl).c ⟨#[]⟩, nxB (gS4 (tS5 ra (puV rb) re rp ro) ra re rl).c ⟨#[]⟩, (gS4 (tS5 ra (puV rb) re rp ro) ra re rl).h])), .int .i64 0]) (fun w M => f_O g5 (tS5 ra (puV rb) re rp ro) ra re (puV rb) rl rfl (tS5_hs _ _ _ _ _) (bg0 c5).1 (bg0 c5).2.2.1 c6 w M.laid (M.get 4 rfl) (M.ne0 4 rfl)) fun u16 M => rV 3 <| ZL M 1 5 (sQ [puV rb, gP (tS5 ra (puV rb) re rp ro) ra re rl, nxA (gS4 (tS5 ra (puV rb) re rp ro) ra re rl).c ⟨#[]⟩, nxB (gS4 (tS5 ra (puV rb) re rp ro) ra re rl).c ⟨#[]⟩, (gS4 (tS5 ra (puV rb) re rp ro) ra re rl).h]) fun u17 M => rV 1 <| nT <| sR <| pA M 119 5 6 (tm (tS5 ra (puV rb) re rp ro) [ra, re, puV rb]) <| rV 1 <| pD M 121 (.tuple #[.agg (av 5 (sQ [puV rb, gP (tS5 ra (puV rb) re rp ro) ra re rl, nxA (gS4 (tS5 ra (puV rb) re rp ro) ra re rl).c ⟨#[]⟩, nxB (gS4 (tS5 ra (puV rb) re rp ro) ra re rl).c ⟨#[]⟩, (gS4 (tS5 ra (puV rb) re rp ro) ra re rl).h])), .int .i64 0]) (fun w M => df_O (tS5 ra (puV rb) re rp ro) ra re (puV rb) rl rfl (tS5_hs _ _ _ _ _) (tS5_cs _ _ _ _ _) (bg0 c5).1 (bg0 c5).2.2.1 c6 w M.laid) fun u18 M => rV 3 <| ZL M 3 5 (sQ [puV rb, gP (tS5 ra (puV rb) re rp ro) ra re rl, nxA (gS4 (tS5 ra (puV rb) re rp ro) ra re rl).c ⟨#[]⟩, nxB (gS4 (tS5 ra (puV rb) re rp ro) ra re rl).c ⟨#[]⟩, (gS4 (tS5 ra (puV rb) re rp ro) ra re rl).h]) fun u19 M => rV 1 <| nT <| sR <| pA M 124 1 5 (sQ [puV rb, gP (tS5 ra (puV rb) re rp ro) ra re rl, nxA (gS4 (tS5 ra (puV rb) re rp ro) ra re rl).c ⟨#[]⟩, nxB (gS4 (tS5 ra (puV rb) re rp ro) ra re rl).c ⟨#[]⟩, (gS4 (tS5 ra (puV rb) re rp ro) ra re rl).h]) <| pA M 125 3 5 (sQ [puV rb, gP (tS5 ra (puV rb) re rp ro) ra re rl, nxA (gS4 (tS5 ra (puV rb) re rp ro) ra re rl).c ⟨#[]⟩, nxB (gS4 (tS5 ra (puV rb) re rp ro) ra re rl).c ⟨#[]⟩, (gS4 (tS5 ra (puV rb) re rp ro) ra re rl).h]) ?_
        refine z41 126 (puV rb) (gP (tS5 ra (puV rb) re rp ro) ra re rl) (nxA (gS4 (tS5 ra (puV rb) re rp ro) ra re rl).c ⟨#[]⟩) (nxB (gS4 (tS5 ra (puV rb) re rp ro) ra re rl).c ⟨#[]⟩) ((gS4 (tS5 ra (puV rb) re rp ro) ra re rl).h) <| rV 6 <| pl_call M (by kernel_rfl) (some 133) rfl 8 #[] (.bool true) (fun _ => by kernel_rfl) (fun w M => c_alive w M.laid) fun u20 M => rV 2 <| nT <| wp_ret ?_
        exact b1 M
       ·refine pD M 115 (.tuple #[.agg (av 5 (zq 5)), .int .i64 (fiE (tS5 ra (puV rb) re rp ro) ra re rl)]) (fun w M => f_E g5 (tS5 ra (puV rb) re rp ro) ra re (puV rb) rl rfl (tS5_hs _ _ _ _ _) (bg0 c5).1 (bg0 c5).2.2.1 c6 w M.laid (M.get 4 rfl) (M.ne0 4 rfl)) fun u16 M => rV 3 <| ZL M 1 5 (zq 5) fun u17 M => rV 1 <| nT <| sR <| pA M 119 5 6 (tm (tS5 ra (puV rb) re rp ro) [ra, re, puV rb]) <| rV 1 <| pD M 121 (.tuple #[.agg (av 5 (zq 5)), .int .i64 (fiE (tS5 ra (puV rb) re rp ro) ra re rl)]) (fun w M => df_E (tS5 ra (puV rb) re rp ro) ra re (puV rb) rl rfl (tS5_hs _ _ _ _ _) (tS5_cs _ _ _ _ _) (bg0 c5).1 (bg0 c5).2.2.1 c6 w M.laid) fun u18 M => rV 3 <| ZL M 3 5 (zq 5) fun u19 M => rV 1 <| nT <| sR <| pA M 124 1 5 (zq 5) <| pA M 125 3 5 (zq 5) ?_
        refine z41 126 zb zb zb zb zb <| rV 3 <| ZT 130 ((fiE (tS5 ra (puV rb) re rp ro) ra re rl) = (fiE (tS5 ra (puV rb) re rp ro) ra re rl)) <| rV 2 <| pl_call M (by kernel_rfl) (some 133) rfl 8 #[] (.bool true) (fun _ => by kernel_rfl) (fun w M => c_alive w M.laid) fun u20 M => rV 2 <| nT <| wp_ret ?_
        exact b1 M
      ·refine ZC M 84 (fun w M => c_BeginE ra (puV rb) re rp ro c5 w M.laid) fun u12 M => rV 7 <| nT <| sR <| rV 1 <| ZE M 90 0 0 <| rV 2 <| ZE M 93 0 2 <| rV 1 <| ZE M 95 0 4 <| rV 1 <| ZE M 97 0 5 <| pD M 98 (.tuple #[.agg (av 6 (zq 6)), .string zb, .int .i64 (bgE ra (puV rb) re rp ro)]) (fun w M => db_E ra (puV rb) re rp ro c5 w M.laid) fun u13 M => rV 4 <| pN M 17 (.cells (av 6 (zq 6)) 35) fun g5 u14 M => ZL M 4 6 (zq 6) fun u15 M => ?_
       refine rV 2 <| nT <| wp_seq <| sR <| rV 2 <| ZD 104 ((bgE ra (puV rb) re rp ro) = (bgE ra (puV rb) re rp ro)) <| nT <| cF <| wp_skip <| au_then <| wp_seq <| sR <| rV 1 <| wU 106 c5 <| nT <| cT ?_
       refine sR <| rV 3 <| pl_call M (by kernel_rfl) (some 110) rfl 8 #[] (.bool true) (fun _ => by kernel_rfl) (fun w M => c_alive w M.laid) fun u16 M => rV 2 <| nT <| wp_ret <| au_then_ret ?_
       exact b1 M
     ·refine pD M 71 (.tuple #[.string zb, .int .i64 2]) (fun w M => Mon.rpub_no rb w c4) fun u11 M => rV 5 <| nT <| sR <| rV 1 <| ZE M 76 0 0 <| rV 2 <| ZE M 79 0 2 <| rV 1 <| ZE M 81 0 4 <| rV 1 <| ZE M 83 0 5 ?_
      by_cases c5 : (bgE ra ⟨#[]⟩ re rp ro) = 0
      ·exact absurd (bg0 c5).2.1 (by decide)
      ·refine ZC M 84 (fun w M => c_BeginE ra ⟨#[]⟩ re rp ro c5 w M.laid) fun u12 M => rV 7 <| nT <| sR <| rV 1 <| ZE M 90 0 0 <| rV 2 <| ZE M 93 0 2 <| rV 1 <| ZE M 95 0 4 <| rV 1 <| ZE M 97 0 5 <| pD M 98 (.tuple #[.agg (av 6 (zq 6)), .string zb, .int .i64 (bgE ra ⟨#[]⟩ re rp ro)]) (fun w M => db_E ra ⟨#[]⟩ re rp ro c5 w M.laid) fun u13 M => rV 4 <| pN M 17 (.cells (av 6 (zq 6)) 35) fun g5 u14 M => ZL M 4 6 (zq 6) fun u15 M => ?_
       refine rV 2 <| nT <| wp_seq <| sR <| rV 2 <| ZD 104 ((bgE ra ⟨#[]⟩ re rp ro) = (bgE ra ⟨#[]⟩ re rp ro)) <| nT <| cF <| wp_skip <| au_then <| wp_seq <| sR <| rV 1 <| wU 106 c5 <| nT <| cT ?_
       refine sR <| rV 3 <| pl_call M (by kernel_rfl) (some 110) rfl 8 #[] (.bool true) (fun _ => by kernel_rfl) (fun w M => c_alive w M.laid) fun u16 M => rV 2 <| nT <| wp_ret <| au_then_ret ?_
       exact b1 M
open Go.RowKit
def lay6 : List (String × DataW Unit) := [("isthmus/blake.orders", Rows.laid_isthmus_blake_orders), ("isthmus/chacha.turns", Rows.laid_isthmus_chacha_turns)]
theorem int_of_trod {H : Type} {enc : TypeId × Value → H} {P : Program} {w : World} {base : Nat} {sp : Nat → Bool} {held : Bool} {fuel : Nat} {t : TypeId} {k : IntKind} {c : Value} {y : DataW H × List MemPlace}
  (ht : P.underlying t = some (.int k)) (h : DataW.trod enc P w base sp held fuel t [c] = some y) : ∃ n, c = .int k n ∧ y = (.lit (.int k n), []) := by
 cases fuel with
 | zero => simp [DataW.trod] at h
 | succ fuel =>
  cases c <;> simp [DataW.trod, ht] at h
  rename_i k' n
  obtain ⟨⟨rfl, _⟩, rfl⟩ := h
  exact ⟨n, rfl, rfl⟩
def litsOf : DataW Unit → List (DataW Unit)
 | .agg l => l
 | _ => []
theorem glA : Tryz.prog.globalNamed "isthmus/blake.orders" = some 0 := by kernel_rfl
theorem glTA : (Tryz.prog.globals[0]?).map (·.type) = some 215 := by kernel_rfl
theorem clCA : Tryz.prog.cellsOf 5 = 1 := by kernel_rfl
theorem clEA : Tryz.prog.cellsOf 214 = 16 := by kernel_rfl
theorem litsA : ∀ a, a < 10 → ∀ b, b < 16 → (litsOf (((litsOf Rows.laid_isthmus_blake_orders)[a]?).getD .nil))[b]? = some (.lit (.int .u8 (OF (a * 16 + b)))) := by
 have h : ((List.range 10).all fun a => (List.range 16).all fun b => match (litsOf (((litsOf Rows.laid_isthmus_blake_orders)[a]?).getD .nil))[b]? with | some (.lit (.int .u8 n)) => n == (OF (a * 16 + b) : Int) | _ => false) = true := by decide +kernel
 intro a ha b hb
 have h1 := List.all_eq_true.1 h a (List.mem_range.2 ha)
 have h2 := List.all_eq_true.1 h1 b (List.mem_range.2 hb)
 split at h2
 ·rename_i n e
  rw [e, eq_of_beq h2]
 ·cases h2
theorem layA {W : World} {cs : Array Value} {fuel : Nat} {p : List MemPlace} (hvar : W.var? Tryz.prog "isthmus/blake.orders" = some cs) (hd : DataW.trod (fun _ => ()) Tryz.prog W 0 (fun _ => true) false fuel 215 cs.toList = some (Rows.laid_isthmus_blake_orders, p)) : ∀ i, i < 160 → W.cell? ⟨0, i, none⟩ = some (.int .u8 (OF i)) := by
 obtain ⟨xs, m, _, hx, hlen, hxl, hat⟩ := DataW.trod_array Tryz.underlying215 hd
 have hl160 : cs.toList.length = 160 := hlen.trans (by kernel_rfl)
 have e1 : litsOf Rows.laid_isthmus_blake_orders = xs.map (·.1) := by
  have := congrArg Prod.fst hx
  simp only at this
  rw [this]
  rfl
 intro i hi
 rw [World.var?_cell glA hvar i]
 obtain ⟨a, ha⟩ : ∃ a, a = i / 16 := ⟨_, rfl⟩
 obtain ⟨b, hb⟩ : ∃ b, b = i % 16 := ⟨_, rfl⟩
 have hi3 : i = a * 16 + b := by omega
 have ha1 : a < 10 := by omega
 have hb1 : b < 16 := by omega
 have h1 := hat a ha1
 rw [clEA, List.getElem?_eq_getElem (by omega)] at h1
 have h3 := litsA a ha1 b hb1
 rw [e1, List.getElem?_map, List.getElem?_eq_getElem (l := xs) (i := a) (by omega), Option.map_some, Option.getD_some] at h3
 generalize xs[a] = xa at h1 h3
 obtain ⟨ys, m2, _, hy, hlen2, hyl, hat2⟩ := DataW.trod_array Tryz.underlying214 h1
 have e2 : litsOf xa.1 = ys.map (·.1) := by rw [hy]; rfl
 have h4 := hat2 b hb1
 have hl2 : cs.size = 160 := by simpa using hl160
 have hi2 : b < (List.take 16 (List.drop (a * 16) cs.toList)).length := by simp; omega
 rw [clCA, Nat.mul_one, List.drop_eq_getElem_cons hi2, List.take_succ_cons, List.take_zero, List.getElem?_eq_getElem (by omega)] at h4
 obtain ⟨n, hc, hy2⟩ := int_of_trod Tryz.underlying5 h4
 rw [e2, List.getElem?_map, List.getElem?_eq_getElem (l := ys) (i := b) (by omega), hy2] at h3
 simp at h3
 subst h3
 have e5 : cs.toList[i]? = some (List.take 16 (List.drop (a * 16) cs.toList))[b] := by
  rw [← List.getElem?_eq_getElem hi2, List.getElem?_take_of_lt hb1, List.getElem?_drop, hi3]
 rw [← Array.getElem?_toList, e5, hc, hi3]
theorem glB : Tryz.prog.globalNamed "isthmus/chacha.turns" = some 2 := by kernel_rfl
theorem glTB : (Tryz.prog.globals[2]?).map (·.type) = some 242 := by kernel_rfl
theorem clCB : Tryz.prog.cellsOf 3 = 1 := by kernel_rfl
theorem clEB : Tryz.prog.cellsOf 241 = 2 := by kernel_rfl
theorem litsB : ∀ a, a < 2 → ∀ b, b < 2 → (litsOf (((litsOf Rows.laid_isthmus_chacha_turns)[a]?).getD .nil))[b]? = some (.lit (.int .i64 (TF (a * 2 + b)))) := by
 have h : ((List.range 2).all fun a => (List.range 2).all fun b => match (litsOf (((litsOf Rows.laid_isthmus_chacha_turns)[a]?).getD .nil))[b]? with | some (.lit (.int .i64 n)) => n == (TF (a * 2 + b) : Int) | _ => false) = true := by decide +kernel
 intro a ha b hb
 have h1 := List.all_eq_true.1 h a (List.mem_range.2 ha)
 have h2 := List.all_eq_true.1 h1 b (List.mem_range.2 hb)
 split at h2
 ·rename_i n e
  rw [e, eq_of_beq h2]
 ·cases h2
theorem layB {W : World} {cs : Array Value} {fuel : Nat} {p : List MemPlace} (hvar : W.var? Tryz.prog "isthmus/chacha.turns" = some cs) (hd : DataW.trod (fun _ => ()) Tryz.prog W 0 (fun _ => true) false fuel 242 cs.toList = some (Rows.laid_isthmus_chacha_turns, p)) : ∀ i, i < 4 → W.cell? ⟨2, i, none⟩ = some (.int .i64 (TF i)) := by
 obtain ⟨xs, m, _, hx, hlen, hxl, hat⟩ := DataW.trod_array Tryz.underlying242 hd
 have hl160 : cs.toList.length = 4 := hlen.trans (by kernel_rfl)
 have e1 : litsOf Rows.laid_isthmus_chacha_turns = xs.map (·.1) := by
  have := congrArg Prod.fst hx
  simp only at this
  rw [this]
  rfl
 intro i hi
 rw [World.var?_cell glB hvar i]
 obtain ⟨a, ha⟩ : ∃ a, a = i / 2 := ⟨_, rfl⟩
 obtain ⟨b, hb⟩ : ∃ b, b = i % 2 := ⟨_, rfl⟩
 have hi3 : i = a * 2 + b := by omega
 have ha1 : a < 2 := by omega
 have hb1 : b < 2 := by omega
 have h1 := hat a ha1
 rw [clEB, List.getElem?_eq_getElem (by omega)] at h1
 have h3 := litsB a ha1 b hb1
 rw [e1, List.getElem?_map, List.getElem?_eq_getElem (l := xs) (i := a) (by omega), Option.map_some, Option.getD_some] at h3
 generalize xs[a] = xa at h1 h3
 obtain ⟨ys, m2, _, hy, hlen2, hyl, hat2⟩ := DataW.trod_array Tryz.underlying241 h1
 have e2 : litsOf xa.1 = ys.map (·.1) := by rw [hy]; rfl
 have h4 := hat2 b hb1
 have hl2 : cs.size = 4 := by simpa using hl160
 have hi2 : b < (List.take 2 (List.drop (a * 2) cs.toList)).length := by simp; omega
 rw [clCB, Nat.mul_one, List.drop_eq_getElem_cons hi2, List.take_succ_cons, List.take_zero, List.getElem?_eq_getElem (by omega)] at h4
 obtain ⟨n, hc, hy2⟩ := int_of_trod Tryz.underlying3 h4
 rw [e2, List.getElem?_map, List.getElem?_eq_getElem (l := ys) (i := b) (by omega), hy2] at h3
 simp at h3
 subst h3
 have e5 : cs.toList[i]? = some (List.take 2 (List.drop (a * 2) cs.toList))[b] := by
  rw [← List.getElem?_eq_getElem hi2, List.getElem?_take_of_lt hb1, List.getElem?_drop, hi3]
 rw [← Array.getElem?_toList, e5, hc, hi3]
theorem laid_of {W : World} (h0 : laidMetH Tryz.prog lay6 W) : Laid W := by
 have h : laidMet Tryz.prog lay6 W := h0
 obtain ⟨ps, ⟨g, t, cs, fuel, p, q, hg, ht, hvar, hd, ⟨g2, t2, c2, f2, p2, q2, hg2, ht2, hv2, hd2, _, _⟩, _⟩, _⟩ := h
 obtain rfl := Option.some.inj (glA.symm.trans hg)
 obtain rfl := Option.some.inj (glTA.symm.trans ht)
 obtain rfl := Option.some.inj (glB.symm.trans hg2)
 obtain rfl := Option.some.inj (glTB.symm.trans ht2)
 exact ⟨layA hvar hd, layB hv2 hd2⟩
theorem lay_witness (os : Os) (args : Array Value) : laidMetH Tryz.prog lay6 ((World.laidAll Tryz.prog os lay6).forCall (fun _ _ => 0) ⟨#[], args, []⟩).memory := laidMet_laidAll (laid := lay6) args (by kernel_rfl) (by kernel_rfl)
open Go.ChangeShapes Go.WideShapes Go.ChangeAt Go.RowKit
theorem laidOut : laidOutB Tryz.prog = true := by kernel_rfl
section
variable {W : World} {b0 : Nat} {v : Value}
theorem cell_str (h : Cell.okWide Tryz.prog W .any b0 9 v) : ∃ s, v = .string s := by
 simp only [Cell.okWide, Tryz.underlying9] at h
 cases v <;> simp_all [Cell.ok, Tryz.underlying9]
theorem op9 (h : Value.okWide Tryz.prog W .any b0 9 v) : ∃ s, v = .string s := by
 simp only [Value.okWide, Tryz.underlying9] at h
 exact cell_str h
theorem row_av (cs : Array Value) (l : List Value) (hs : cs.size = l.length) (h : ∀ i, i < l.length → cs[i]? = l[i]?) : cs = av l.length (ls l) := by
 apply Array.ext_getElem?
 intro i
 by_cases hi : i < l.length
 ·rw [h i hi, av_get _ _ _ hi]
  unfold ls
  rw [getD_app, List.getElem?_eq_getElem hi]
  rfl
 ·rw [Array.getElem?_eq_none (by omega), Array.getElem?_eq_none (by rw [av_size]; omega)]
end
theorem row_cells {W : World} {b0 : Nat} {t : TypeId} {v : Value} {fs : Array Field} {ts : List TypeId} (ht : Tryz.prog.underlying t = some (.struct fs)) (hc : Tryz.prog.cellTypes Tryz.prog.depth t = some ts) (hn : Tryz.prog.cellsOf t = ts.length) (h : Value.okWide Tryz.prog W .any b0 t v) : ∃ cs, v = .agg cs ∧ cs.size = ts.length ∧ ∀ (i : Nat) (u : TypeId), ts[i]? = some u → ∃ x, cs[i]? = some x ∧ Cell.okWide Tryz.prog W .any b0 u x := by
 simp only [Value.okWide, ht] at h
 obtain ⟨cs, rfl, h2, ts2, h3, _, h4⟩ := h
 rw [hc] at h3
 cases h3
 refine ⟨cs, rfl, by omega, fun i u hu => ?_⟩
 have hi := (List.getElem?_eq_some_iff.1 hu).1
 obtain ⟨u2, hu2, hx⟩ := h4 i cs[i] (Array.getElem?_eq_getElem (by omega))
 rw [Nat.mod_eq_of_lt hi, hu] at hu2
 cases hu2
 exact ⟨cs[i], Array.getElem?_eq_getElem (by omega), hx⟩
theorem op23 {W : World} {b0 : Nat} {v : Value} (h : Value.okWide Tryz.prog W .any b0 23 v) : ∃ ra rb re rf rp ro rt, v = .agg (av 7 (ls [.string ra, .string rb, .string re, .string rf, .string rp, .string ro, .string rt])) := by
 obtain ⟨cs, rfl, hs, hc⟩ := row_cells (ts := [9, 9, 9, 9, 9, 9, 9]) Tryz.underlying23 (by kernel_rfl) (by kernel_rfl) h
 obtain ⟨x0, e0, o0⟩ := hc 0 9 rfl
 obtain ⟨ra, rfl⟩ := cell_str o0
 obtain ⟨x1, e1, o1⟩ := hc 1 9 rfl
 obtain ⟨rb, rfl⟩ := cell_str o1
 obtain ⟨x2, e2, o2⟩ := hc 2 9 rfl
 obtain ⟨re, rfl⟩ := cell_str o2
 obtain ⟨x3, e3, o3⟩ := hc 3 9 rfl
 obtain ⟨rf, rfl⟩ := cell_str o3
 obtain ⟨x4, e4, o4⟩ := hc 4 9 rfl
 obtain ⟨rp, rfl⟩ := cell_str o4
 obtain ⟨x5, e5, o5⟩ := hc 5 9 rfl
 obtain ⟨ro, rfl⟩ := cell_str o5
 obtain ⟨x6, e6, o6⟩ := hc 6 9 rfl
 obtain ⟨rt, rfl⟩ := cell_str o6
 refine ⟨ra, rb, re, rf, rp, ro, rt, congrArg Value.agg (row_av cs [.string ra, .string rb, .string re, .string rf, .string rp, .string ro, .string rt] hs fun i hi => ?_)⟩
 rcases i with _ | _ | _ | _ | _ | _ | _ | i
 ·exact e0
 ·exact e1
 ·exact e2
 ·exact e3
 ·exact e4
 ·exact e5
 ·exact e6
 ·exact absurd hi (by simp)
theorem wt_str {H : Type} (P : Program) (t : TypeId) (ts : List TypeId) (s : Yb) (r : List (DataW H)) (h : (DataW.weightsEach P (t :: ts) (.lit (.string s.data.toList) :: r)).all (· ≤ reachBytes) = true) : s.size ≤ 140737488351232 ∧ (DataW.weightsEach P ts r).all (· ≤ reachBytes) = true := by
 simp only [DataW.weightsEach, DataW.weights, List.all_append, Bool.and_eq_true, List.all_cons, List.all_nil, reachBytes, Bool.and_true] at h
 refine ⟨?_, h.2⟩
 have h1 := of_decide_eq_true h.1
 have e : s.data.toList.length = s.size := rfl
 omega
theorem wt_cons {H : Type} (P : Program) (t : TypeId) (ts : List TypeId) (d : DataW H) (r : List (DataW H)) (h : (DataW.weightsEach P (t :: ts) (d :: r)).all (· ≤ reachBytes) = true) : (d.weights P t).all (· ≤ reachBytes) = true ∧ (DataW.weightsEach P ts r).all (· ≤ reachBytes) = true := by
 simp only [DataW.weightsEach, List.all_append, Bool.and_eq_true] at h
 exact h
theorem wt_at {H : Type} (P : Program) : ∀ (ts : List TypeId) (ds : List (DataW H)) (i : Nat) (t : TypeId) (s : Yb), ts[i]? = some t → ds[i]? = some (.lit (.string s.data.toList)) → (DataW.weightsEach P ts ds).all (· ≤ reachBytes) = true → s.size ≤ 140737488351232
 | t :: ts, d :: ds, 0, t', s, _, hd, h => by
  simp only [List.getElem?_cons_zero, Option.some.injEq] at hd
  subst hd
  exact (wt_str P t ts s ds h).1
 | t :: ts, d :: ds, i + 1, t', s, ht, hd, h => by
  simp only [List.getElem?_cons_succ] at ht hd
  exact wt_at P ts ds i t' s ht hd (wt_cons P t ts d ds h).2
 | [], _, _, _, _, ht, _, _ => by simp at ht
 | _ :: _, [], _, _, _, _, hd, _ => by simp at hd
theorem wt_run {H : Type} {enc : TypeId × Value → H} {W : World} {b0 : Nat} {sp : Nat → Bool} {hd : Bool} {ra rb re rf rp ro rt : Yb} {d : DataW H} {p : List MemPlace} {ts : List TypeId} {r : List (DataW H)} (h : DataW.Trod enc Tryz.prog W b0 sp hd 23 (.agg (av 7 (ls [.string ra, .string rb, .string re, .string rf, .string rp, .string ro, .string rt]))) d p) (hw : (DataW.weightsEach Tryz.prog (23 :: ts) (d :: r)).all (· ≤ reachBytes) = true) : ra.size + rb.size + re.size + rf.size + rp.size + ro.size + rt.size < 4611686018427387904 ∧ (DataW.weightsEach Tryz.prog ts r).all (· ≤ reachBytes) = true := by
 obtain ⟨h1, h2⟩ := wt_cons _ _ _ _ _ hw
 refine ⟨?_, h2⟩
 obtain ⟨fuel, h⟩ := h
 obtain ⟨xs, n, _, hx, _, hlen, hf⟩ := DataW.trod_struct Tryz.underlying23 h
 have h7 : xs.length = 7 := hlen
 have hx1 := congrArg Prod.fst hx
 simp only at hx1
 subst hx1
 have hws : (DataW.weightsEach Tryz.prog [9, 9, 9, 9, 9, 9, 9] (xs.map (·.1))).all (· ≤ reachBytes) = true := by
  unfold DataW.weights at h1
  rw [Tryz.underlying23] at h1
  exact h1
 have key : ∀ (i : Nat) (s : Yb), ([9, 9, 9, 9, 9, 9, 9] : List TypeId)[i]? = some 9 → DataW.trod enc Tryz.prog W b0 sp hd n 9 [.string s] = xs[i]? → s.size ≤ 140737488351232 := fun i s ht he => by
  cases hxi : xs[i]? with
  | none =>
   rw [hxi] at he
   have hl : i < xs.length := by
    have := (List.getElem?_eq_some_iff.1 ht).1
    simp at this
    omega
   rw [List.getElem?_eq_getElem hl] at hxi
   cases hxi
  | some y =>
   rw [hxi] at he
   obtain ⟨s', e1, e2, _⟩ := DataW.trod_string Tryz.underlying9 he
   simp only [List.cons.injEq, Value.string.injEq, and_true] at e1
   subst e1
   exact wt_at _ _ _ i 9 s ht (by rw [List.getElem?_map, hxi, e2]; rfl) hws
 have k0 := key 0 ra rfl (hf 0 _ rfl)
 have k1 := key 1 rb rfl (hf 1 _ rfl)
 have k2 := key 2 re rfl (hf 2 _ rfl)
 have k3 := key 3 rf rfl (hf 3 _ rfl)
 have k4 := key 4 rp rfl (hf 4 _ rfl)
 have k5 := key 5 ro rfl (hf 5 _ rfl)
 have k6 := key 6 rt rfl (hf 6 _ rfl)
 omega
end Go.Proofs.YtffimigpbcilbaaGreatDoor
