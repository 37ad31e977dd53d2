/- Both sides are one: what is read of any bytes. -/
import Derived.Test.YtbechjlkmajcoaaV2
namespace Go.Proofs.Ytbechjlkmajcoaa
open Go.RowKit

structure Rel (r : Rs) (d : Ds) : Prop where
  f : d.f = fl r.e r.f
  s : d.f = 0 → d.s = r.s
theorem fl_0 {e f : Int} (h : fl e f = 0) : e = 0 ∧ f = 0 := by
  unfold fl at h
  by_cases c : e = 0
  · rw [if_pos c] at h
    exact ⟨c, h⟩
  · rw [if_neg c] at h
    exact absurd h c
/-- A fault stays. -/
theorem fl_tk {r : Rs} (h : fl r.e r.f ≠ 0) (n : Int) : fl (tkR r n).e (tkR r n).f = fl r.e r.f := by
  show fl r.e (tkF r.s r.f n) = fl r.e r.f
  unfold fl at h ⊢
  by_cases c : r.e = 0
  · rw [if_pos c] at h ⊢
    rw [if_pos c, tkF_ne _ _ _ h]
  · rw [if_neg c, if_neg c]
theorem fl_rf {r : Rs} (h : fl r.e r.f ≠ 0) (x : Int) : rfR r x = r := by
  unfold rfR
  rw [if_neg h]
theorem fl_re {r : Rs} (h : fl r.e r.f ≠ 0) : fl (reS r).e (reS r).f = fl r.e r.f := by
  have h1 := fl_tk h 1
  have g1 : fl (tkR r 1).e (tkR r 1).f ≠ 0 := by rw [h1]; exact h
  have h2 : fl (reM r).e (reM r).f = fl r.e r.f := by
    unfold reM
    split
    · rw [fl_tk g1, h1]
    · split
      · have h3 := fl_tk g1 8
        rw [fl_tk (by rw [h3]; exact g1), h3, h1]
      · rw [fl_rf g1, h1]
  unfold reS
  rw [fl_tk (by rw [h2]; exact h), h2]
theorem fl_rt {r : Rs} (h : fl r.e r.f ≠ 0) (n : Int) : fl (rtS r n).e (rtS r n).f = fl r.e r.f := by
  have h1 := fl_tk h 2
  have g1 : fl (tkR r 2).e (tkR r 2).f ≠ 0 := by rw [h1]; exact h
  have h2 : fl (rtM r n).e (rtM r n).f = fl r.e r.f := by
    unfold rtM
    split
    · rw [fl_rf g1, h1]
    · exact h1
  unfold rtS
  rw [fl_tk (by rw [h2]; exact h), h2]
theorem fl_K {r : Rs} (h : fl r.e r.f ≠ 0) (k : Nat) : fl (rK k r).e (rK k r).f = fl r.e r.f := by
  unfold rK
  split <;> first | exact fl_tk h _ | exact fl_re h | exact fl_rt h _ | rfl
theorem sK_ne {d : Ds} (h : d.f ≠ 0) (k : Nat) : sK k d = d := by
  unfold sK
  split <;> first | exact dtk_ne h _ | exact deS_ne h | exact dtS_ne h _ | rfl
theorem Rel.stuck {r : Rs} {d : Ds} (h : Rel r d) (hd : d.f ≠ 0) {r' : Rs} (h' : fl r.e r.f ≠ 0 → fl r'.e r'.f = fl r.e r.f) : Rel r' d := ⟨by rw [h' (by rw [← h.f]; exact hd)]; exact h.f, fun e => absurd e hd⟩
theorem rel0 {r : Rs} {d : Ds} (h : Rel r d) (hd : d.f = 0) : r = ⟨d.s, 0, 0⟩ := by
  obtain ⟨h1, h2⟩ := fl_0 (h.f.symm.trans hd)
  obtain ⟨s, f, e⟩ := r
  simp only at h1 h2
  rw [h1, h2, h.s hd]
theorem ds0 {d : Ds} (hd : d.f = 0) : d = ⟨d.s, 0⟩ := by
  obtain ⟨s, f⟩ := d
  simp only at hd
  rw [hd]
theorem rel_same (s : ByteArray) (f : Int) : Rel ⟨s, f, 0⟩ ⟨s, f⟩ := ⟨by unfold fl; rw [if_pos rfl], fun _ => rfl⟩
theorem tkR0 (s : ByteArray) (n : Int) : tkR ⟨s, 0, 0⟩ n = ⟨tkS s 0 n, tkF s 0 n, 0⟩ := rfl
theorem dtk0 (s : ByteArray) (n : Int) : dtk ⟨s, 0⟩ n = ⟨tkS s 0 n, tkF s 0 n⟩ := rfl
theorem rel_tk {r : Rs} {d : Ds} (h : Rel r d) (n : Int) : Rel (tkR r n) (dtk d n) := by
  by_cases hd : d.f = 0
  · rw [rel0 h hd, ds0 hd]
    exact rel_same _ _
  · rw [dtk_ne hd]
    exact h.stuck hd fun hf => fl_tk hf n
theorem x_eq (s : ByteArray) (f : Int) : cv .u8 (bnv (tkV s f 1)) = bdv (tkV s f 1) := by
  have := bdv_lt (tkV s f 1) 1 (by decide) (tkV_le s f 1)
  rw [bnv_bdv, cv_u8]
  omega
theorem x_none {s : ByteArray} (h : tkF s 0 1 ≠ 0) : bdv (tkV s 0 1) = 0 := by
  have : tkV s 0 1 = ⟨#[]⟩ := by
    refine if_neg fun e => h ?_
    unfold tkF
    rw [if_pos rfl, if_neg (by decide), if_neg (by omega)]
  rw [this]
  rfl
theorem num4 (s : ByteArray) (f : Int) : cv .u64 (cv .u32 (bnv (tkV s f 4))) = bdv (tkV s f 4) := by
  have := bdv_lt (tkV s f 4) 4 (by decide) (tkV_le s f 4)
  rw [bnv_bdv, cv_u32, cv_u64]
  omega
theorem num2 (s : ByteArray) (f : Int) : cv .u16 (bdv (tkV s f 2)) = bdv (tkV s f 2) := by
  have := bdv_lt (tkV s f 2) 2 (by decide) (tkV_le s f 2)
  rw [cv_u16]
  omega
theorem n_eq (s : ByteArray) : rxN ⟨s, 0, 0⟩ = dtN ⟨s, 0⟩ := by
  unfold rxN dtN
  rw [bnv_bdv, num2]
theorem n_is (s : ByteArray) : dtN ⟨s, 0⟩ = bdv (tkV s 0 2) := by
  have := bdv_lt (tkV s 0 2) 2 (by decide) (tkV_le s 0 2)
  unfold dtN
  exact cv_i64 (by show _ ≤ bdv (tkV s 0 2); omega) (by show bdv (tkV s 0 2) < _; omega)
theorem n_none {s : ByteArray} (h : tkF s 0 2 ≠ 0) : dtN ⟨s, 0⟩ = 0 := by
  have : tkV s 0 2 = ⟨#[]⟩ := by
    refine if_neg fun e => h ?_
    unfold tkF
    rw [if_pos rfl, if_neg (by decide), if_neg (by omega)]
  rw [n_is, this]
  rfl
/-- An end. -/
theorem rel_re {r : Rs} {d : Ds} (h : Rel r d) : Rel (reS r) (deS d) ∧ ((deS d).f = 0 → reV r = deV d ∧ reH r = deH d ∧ reL r = deL d ∧ reP r = deP d) := by
  by_cases hd : d.f = 0
  · rw [rel0 h hd, ds0 hd]
    generalize d.s = s
    have hx : xE ⟨s, 0, 0⟩ = dxE ⟨s, 0⟩ := x_eq s 0
    have hxv : dxE ⟨s, 0⟩ = bdv (tkV s 0 1) := rfl
    have R1 : Rel (tkR ⟨s, 0, 0⟩ 1) (dtk ⟨s, 0⟩ 1) := rel_same _ _
    by_cases hf : tkF s 0 1 = 0
    · have hp : ∀ r' d', Rel r' d' → d'.f = 0 → cv .u16 (bnv (tkV r'.s r'.f 2)) = cv .u16 (bdv (tkV d'.s d'.f 2)) := fun r' d' R hz => by
        rw [rel0 R hz, ds0 hz, bnv_bdv]
      by_cases c4 : dxE ⟨s, 0⟩ = 4
      · have e1 : de1 ⟨s, 0⟩ = dtk ⟨s, 0⟩ 1 := by
          unfold de1
          rw [if_pos hf, if_pos c4]
        have em : deM1 ⟨s, 0⟩ = dtk (dtk ⟨s, 0⟩ 1) 4 := by
          unfold deM1
          rw [if_neg (by rw [c4]; decide), e1]
        have rm : reM ⟨s, 0, 0⟩ = tkR (tkR ⟨s, 0, 0⟩ 1) 4 := by
          unfold reM
          rw [hx, if_pos c4]
        have R2 := rel_tk R1 4
        refine ⟨by unfold reS deS; rw [em, rm]; exact rel_tk R2 2, fun hz => ?_⟩
        have hz2 : (dtk (dtk ⟨s, 0⟩ 1) 4).f = 0 := by
          refine Classical.byContradiction fun hn => ?_
          unfold deS at hz
          rw [em, dtk_ne hn] at hz
          exact hn hz
        refine ⟨?_, ?_, ?_, ?_⟩
        · unfold reV deV
          rw [hx, if_pos c4, if_neg (by rw [c4]; decide)]
        · unfold reH deH
          rw [hx, if_pos c4, if_neg (by rw [c4]; decide)]
        · unfold reL deL
          rw [hx, if_pos c4, if_neg (by rw [c4]; decide), e1, num4]
          rfl
        · unfold reP deP
          rw [rm, em]
          exact hp _ _ R2 hz2
      · by_cases c6 : dxE ⟨s, 0⟩ = 6
        · have e1 : de1 ⟨s, 0⟩ = dtk ⟨s, 0⟩ 1 := by
            unfold de1
            rw [if_pos hf, if_neg c4, if_pos c6]
          have em : deM1 ⟨s, 0⟩ = dtk (dtk (dtk ⟨s, 0⟩ 1) 8) 8 := by
            unfold deM1
            rw [if_pos c6, e1]
          have rm : reM ⟨s, 0, 0⟩ = tkR (tkR (tkR ⟨s, 0, 0⟩ 1) 8) 8 := by
            unfold reM
            rw [hx, if_neg c4, if_pos c6]
          have R2 := rel_tk R1 8
          have R3 := rel_tk R2 8
          refine ⟨by unfold reS deS; rw [em, rm]; exact rel_tk R3 2, fun hz => ?_⟩
          have hz3 : (dtk (dtk (dtk ⟨s, 0⟩ 1) 8) 8).f = 0 := by
            refine Classical.byContradiction fun hn => ?_
            unfold deS at hz
            rw [em, dtk_ne hn] at hz
            exact hn hz
          have hz2 : (dtk (dtk ⟨s, 0⟩ 1) 8).f = 0 := by
            refine Classical.byContradiction fun hn => ?_
            rw [dtk_ne hn] at hz3
            exact hn hz3
          refine ⟨?_, ?_, ?_, ?_⟩
          · unfold reV deV
            rw [hx, if_neg c4, if_pos c6]
          · unfold reH deH
            rw [hx, if_neg c4, if_pos c6, if_pos c6, e1, bnv_bdv]
            rfl
          · unfold reL deL
            rw [hx, if_neg c4, if_pos c6, if_pos c6, e1, bnv_bdv, rel0 R2 hz2, ds0 hz2]
          · unfold reP deP
            rw [rm, em]
            exact hp _ _ R3 hz3
        · have e1 : de1 ⟨s, 0⟩ = ⟨(dtk ⟨s, 0⟩ 1).s, 8⟩ := by
            unfold de1
            rw [if_pos hf, if_neg c4, if_neg c6]
          have hs : deS ⟨s, 0⟩ = ⟨(dtk ⟨s, 0⟩ 1).s, 8⟩ := by
            unfold deS deM1
            rw [if_neg c6, e1]
            have h8 : (⟨(dtk ⟨s, 0⟩ 1).s, 8⟩ : Ds).f ≠ 0 := show (8 : Int) ≠ 0 by decide
            rw [dtk_ne h8, dtk_ne h8]
          have rm : reM ⟨s, 0, 0⟩ = ⟨tkS s 0 1, tkF s 0 1, 8⟩ := by
            unfold reM
            rw [hx, if_neg c4, if_neg c6]
            unfold rfR
            rw [if_pos (show fl (tkR ⟨s, 0, 0⟩ 1).e (tkR ⟨s, 0, 0⟩ 1).f = 0 by show fl 0 (tkF s 0 1) = 0; rw [hf]; rfl)]
            rfl
          refine ⟨⟨?_, fun e => ?_⟩, fun e => ?_⟩
          · unfold reS
            rw [rm, hs, fl_tk (show fl 8 (tkF s 0 1) ≠ 0 by unfold fl; rw [if_neg (by decide)]; decide)]
            rfl
          · rw [hs] at e
            exact absurd e (show ¬ (8 : Int) = 0 by decide)
          · rw [hs] at e
            exact absurd e (show ¬ (8 : Int) = 0 by decide)
    · have hx0 : dxE ⟨s, 0⟩ = 0 := x_none hf
      have hdf : (dtk ⟨s, 0⟩ 1).f ≠ 0 := hf
      have e1 : de1 ⟨s, 0⟩ = dtk ⟨s, 0⟩ 1 := by
        unfold de1
        rw [if_neg hf]
      have hs : deS ⟨s, 0⟩ = dtk ⟨s, 0⟩ 1 := by
        unfold deS deM1
        rw [if_neg (by rw [hx0]; decide), e1, dtk_ne hdf, dtk_ne hdf]
      have hrf : fl (tkR ⟨s, 0, 0⟩ 1).e (tkR ⟨s, 0, 0⟩ 1).f ≠ 0 := hf
      have rm : reM ⟨s, 0, 0⟩ = tkR ⟨s, 0, 0⟩ 1 := by
        unfold reM
        rw [hx, hx0, if_neg (by decide), if_neg (by decide), fl_rf hrf]
      refine ⟨?_, fun e => ?_⟩
      · unfold reS
        rw [hs, rm]
        exact R1.stuck hdf fun g => fl_tk g 2
      · rw [hs] at e
        exact absurd e hdf
  · rw [deS_ne hd]
    exact ⟨h.stuck hd fun hf => fl_re hf, fun e => absurd e hd⟩
/-- A text. -/
theorem rel_rt {r : Rs} {d : Ds} (h : Rel r d) (n : Int) (hn : 0 ≤ n) : Rel (rtS r n) (dtS d n) ∧ ((dtS d n).f = 0 → rtV r n = dtV d n) := by
  by_cases hd : d.f = 0
  · rw [rel0 h hd, ds0 hd]
    generalize d.s = s
    have R1 : Rel (tkR ⟨s, 0, 0⟩ 2) (dtk ⟨s, 0⟩ 2) := rel_same _ _
    have hN := n_eq s
    by_cases hf : tkF s 0 2 = 0
    · by_cases c : n < dtN ⟨s, 0⟩
      · have d1 : dt1 ⟨s, 0⟩ n = ⟨(dtk ⟨s, 0⟩ 2).s, 4⟩ := by
          unfold dt1
          rw [if_pos hf, if_pos c]
        have hs : dtS ⟨s, 0⟩ n = ⟨(dtk ⟨s, 0⟩ 2).s, 4⟩ := by
          unfold dtS
          rw [d1, dtk_ne (show (4 : Int) ≠ 0 by decide)]
        have rm : rtM ⟨s, 0, 0⟩ n = ⟨tkS s 0 2, tkF s 0 2, 4⟩ := by
          unfold rtM
          rw [hN, if_pos c]
          unfold rfR
          rw [if_pos (show fl (tkR ⟨s, 0, 0⟩ 2).e (tkR ⟨s, 0, 0⟩ 2).f = 0 by show fl 0 (tkF s 0 2) = 0; rw [hf]; rfl)]
          rfl
        refine ⟨⟨?_, fun e => ?_⟩, fun e => ?_⟩
        · unfold rtS
          rw [rm, hs, fl_tk (show fl 4 (tkF s 0 2) ≠ 0 by unfold fl; rw [if_neg (by decide)]; decide)]
          rfl
        · rw [hs] at e
          exact absurd e (show ¬ (4 : Int) = 0 by decide)
        · rw [hs] at e
          exact absurd e (show ¬ (4 : Int) = 0 by decide)
      · have d1 : dt1 ⟨s, 0⟩ n = dtk ⟨s, 0⟩ 2 := by
          unfold dt1
          rw [if_pos hf, if_neg c]
        have rm : rtM ⟨s, 0, 0⟩ n = tkR ⟨s, 0, 0⟩ 2 := by
          unfold rtM
          rw [hN, if_neg c]
        refine ⟨?_, fun _ => ?_⟩
        · unfold rtS dtS
          rw [rm, d1, hN]
          exact rel_tk R1 _
        · unfold rtV dtV
          rw [rm, d1, hN]
          rfl
    · have hdf : (dtk ⟨s, 0⟩ 2).f ≠ 0 := hf
      have d1 : dt1 ⟨s, 0⟩ n = dtk ⟨s, 0⟩ 2 := by
        unfold dt1
        rw [if_neg hf]
      have hs : dtS ⟨s, 0⟩ n = dtk ⟨s, 0⟩ 2 := by
        unfold dtS
        rw [d1, dtk_ne hdf]
      have rm : rtM ⟨s, 0, 0⟩ n = tkR ⟨s, 0, 0⟩ 2 := by
        unfold rtM
        rw [hN, n_none hf, if_neg (by omega)]
      refine ⟨?_, fun e => ?_⟩
      · unfold rtS
        rw [hs, rm]
        exact R1.stuck hdf fun g => fl_tk g _
      · rw [hs] at e
        exact absurd e hdf
  · rw [dtS_ne hd]
    exact ⟨h.stuck hd fun hf => fl_rt hf n, fun e => absurd e hd⟩
theorem tk_val {r : Rs} {d : Ds} (h : Rel r d) {n : Int} (hz : (dtk d n).f = 0) : tkV r.s r.f n = tkV d.s d.f n := by
  have hd : d.f = 0 := by
    refine Classical.byContradiction fun hn => ?_
    rw [dtk_ne hn] at hz
    exact hn hz
  rw [rel0 h hd, ds0 hd]
theorem n32 (s : ByteArray) (f : Int) : cv .u32 (cv .u64 (cv .u32 (bnv (tkV s f 4)))) = cv .u32 (bdv (tkV s f 4)) := by rw [num4]
theorem n16 (s : ByteArray) (f : Int) : cv .u16 (cv .u64 (cv .u16 (bnv (tkV s f 2)))) = cv .u16 (bdv (tkV s f 2)) := by
  have := bdv_lt (tkV s f 2) 2 (by decide) (tkV_le s f 2)
  rw [bnv_bdv, num2, cv_u64, Int.emod_eq_of_lt (by omega) (by omega), num2]
/-- A field. -/
theorem rel_K {r : Rs} {d : Ds} (h : Rel r d) (k : Nat) : Rel (rK k r) (sK k d) ∧ ((sK k d).f = 0 → ∀ m, setF k (rVk k r) m = setF k (sVk k d) m) := by
  match k with
  | 0 => exact ⟨rel_tk h _, fun hz m => by simp only [setF, rVk, sVk, vT]; rw [tk_val h hz]⟩
  | 1 => exact ⟨rel_tk h _, fun hz m => by simp only [setF, rVk, sVk, vT]; rw [tk_val h hz]⟩
  | 2 => exact ⟨rel_tk h _, fun hz m => by simp only [setF, rVk, sVk, vN]; rw [n32, tk_val h hz]⟩
  | 3 => exact ⟨rel_tk h _, fun hz m => by simp only [setF, rVk, sVk, vN]; rw [n32, tk_val h hz]⟩
  | 4 => exact ⟨rel_tk h _, fun hz m => by simp only [setF, rVk, sVk, vN]; rw [bnv_bdv, tk_val h hz]⟩
  | 5 => exact ⟨rel_tk h _, fun hz m => by simp only [setF, rVk, sVk, vN]; rw [bnv_bdv, tk_val h hz]⟩
  | 6 => exact ⟨rel_tk h _, fun hz m => by simp only [setF, rVk, sVk, vN]; rw [bnv_bdv, tk_val h hz]⟩
  | 7 => exact ⟨rel_tk h _, fun hz m => by simp only [setF, rVk, sVk, vT]; rw [tk_val h hz]⟩
  | 8 => exact ⟨(rel_re h).1, fun hz m => by
      obtain ⟨e1, e2, e3, e4⟩ := (rel_re h).2 hz
      simp only [setF, rVk, sVk]
      rw [e1, e2, e3, e4]⟩
  | 9 => exact ⟨rel_tk h _, fun hz m => by simp only [setF, rVk, sVk, vN]; rw [n16, tk_val h hz]⟩
  | 10 => exact ⟨(rel_rt h 64 (by decide)).1, fun hz m => by simp only [setF, rVk, sVk, vT]; rw [(rel_rt h 64 (by decide)).2 hz]⟩
  | 11 => exact ⟨(rel_rt h 32768 (by decide)).1, fun hz m => by simp only [setF, rVk, sVk, vT]; rw [(rel_rt h 32768 (by decide)).2 hz]⟩
  | 12 => exact ⟨rel_tk h _, fun hz m => by simp only [setF, rVk, sVk, vT]; rw [tk_val h hz]⟩
  | k + 13 => exact ⟨h, fun _ _ => rfl⟩
theorem dR_ne {d : Ds} (h : d.f ≠ 0) : ∀ l, dR l d = d
  | [] => rfl
  | k :: l => by
    show dR l (sK k d) = d
    rw [sK_ne h, dR_ne h l]
theorem rel_R : ∀ (l : List Nat) {r : Rs} {d : Ds}, Rel r d → Rel (pR l r) (dR l d) ∧ ((dR l d).f = 0 → ∀ m, pM l r m = dM l d m)
  | [], _, _, h => ⟨h, fun _ _ => rfl⟩
  | k :: l, r, d, h => by
    obtain ⟨h1, h2⟩ := rel_K h k
    obtain ⟨h3, h4⟩ := rel_R l h1
    refine ⟨h3, fun hz m => ?_⟩
    have hz1 : (sK k d).f = 0 := by
      refine Classical.byContradiction fun hn => ?_
      have hz' : (dR l (sK k d)).f = 0 := hz
      rw [dR_ne hn] at hz'
      exact hn hz'
    show pM l (rK k r) (setF k (rVk k r) m) = dM l (sK k d) (setF k (sVk k d) m)
    rw [h2 hz1 m]
    exact h4 hz _
theorem nE_en {r : Rs} {d : Ds} (h : Rel r d) : nE r = enF d.s d.f := by
  unfold nE
  by_cases c : fl r.e r.f = 0
  · have hd : d.f = 0 := by rw [h.f]; exact c
    rw [if_pos c, rel0 h hd, hd]
  · rw [if_neg c, ← h.f, enF_ne (by rw [h.f]; exact c)]
theorem enF_0 {s : ByteArray} {f : Int} (h : enF s f = 0) : f = 0 := by
  unfold enF at h
  by_cases c : f = 0
  · exact c
  · rw [if_neg c] at h
    exact absurd h c
theorem take1 {s : ByteArray} (h : ¬ s = ⟨#[]⟩) : tkF s 0 1 = 0 ∧ tkS s 0 1 = s.extract 1 s.size ∧ cv .u8 (bnv (tkV s 0 1)) = bt s 0 := by
  have hz := sz_pos h
  have e1 : tkV s 0 1 = s.extract 0 1 := if_pos ⟨rfl, by decide, by omega⟩
  refine ⟨?_, if_pos ⟨rfl, by decide, by omega⟩, ?_⟩
  · unfold tkF
    rw [if_pos rfl, if_neg (by decide), if_neg (by omega)]
  · have hsz : (s.extract 0 1).size = 1 := by
      rw [ByteArray.size_extract]
      omega
    have hb : hv (s.extract 0 1) 1 = bt s 0 := by
      show 0 * 256 + bt (s.extract 0 1) 0 = bt s 0
      have : bt (s.extract 0 1) 0 = bt s 0 := by
        unfold bt
        have hd : s.data.size = s.size := rfl
        rw [ByteArray.data_extract, Array.getElem?_extract, if_pos (by omega)]
      omega
    have hn := bt_nn s 0
    rw [e1, bnv_hv _ 1 hsz (by decide), hb, cv_u8]
    omega
theorem rd_none {t : Int} (h : shP t = 0) (r : Rs) : ∀ k, rdK (shP t) r k = r
  | 0 => rfl
  | k + 1 => by
    show rdS (shP t) (bitV k) (rdK (shP t) r k) = r
    rw [rd_none h r k, h]
    have : yn 0 (bitV k) = 0 := by
      unfold yn
      rw [show BitVec.ofInt 16 0 = 0#16 from rfl, BitVec.zero_and]
      rfl
    unfold rdS
    rw [if_pos this]
/-- Both read the same. -/
theorem dec_eq (s : ByteArray) : deE s = ddE s ∧ deM s = ddM s := by
  by_cases hs : s = ⟨#[]⟩
  · subst hs
    have h1 : deE ⟨#[]⟩ = 7 := by kernel_rfl
    have h2 : ddE ⟨#[]⟩ = 7 := by kernel_rfl
    refine ⟨by rw [h1, h2], ?_⟩
    unfold deM ddM
    rw [if_neg (by rw [h1]; decide), if_neg (by rw [h2]; decide)]
  · obtain ⟨t1, t2, t3⟩ := take1 hs
    have hk : kdP s = bt s 0 := t3
    by_cases h0 : shP (bt s 0) = 0
    · have h1 : deE s = 150 := by
        unfold deE
        rw [hk, rd_none h0]
        unfold r0P
        rw [hk, if_pos h0]
        unfold rfR
        rw [if_pos (show fl 0 (tkF s 0 1) = 0 by rw [t1]; rfl)]
        rfl
      have h2 : ddE s = 150 := by
        unfold ddE
        rw [if_neg hs, if_pos ((fd_sh _).2 h0)]
      refine ⟨by rw [h1, h2], ?_⟩
      unfold deM ddM
      rw [if_neg (by rw [h1]; decide), if_neg (by rw [h2]; decide)]
    · have hr : r0P s = ⟨s.extract 1 s.size, 0, 0⟩ := by
        unfold r0P
        rw [hk, if_neg h0, t1, t2]
      have R := rel_R (FL (bt s 0)) (rel_same (s.extract 1 s.size) 0)
      have hD : dD s = dR (FL (bt s 0)) ⟨s.extract 1 s.size, 0⟩ := dk_fl h0 _
      have hE : deE s = ddE s := by
        rw [ddE_of hs (fun e => h0 ((fd_sh _).1 e)) hD]
        unfold deE
        rw [hk, hr, rd_fl h0]
        exact nE_en R.1
      refine ⟨hE, ?_⟩
      unfold deM ddM
      rw [hE]
      by_cases hz : ddE s = 0
      · rw [if_pos hz, if_pos hz, hk, hr, om_fl h0, dm_fl h0]
        rw [ddE_of hs (fun e => h0 ((fd_sh _).1 e)) hD] at hz
        exact R.2 (enF_0 hz) _
      · rw [if_neg hz, if_neg hz]

end Go.Proofs.Ytbechjlkmajcoaa
