/- Time passes. -/
import Derived.Test.YtlfekknonjlopaaG5
import Derived.Test.YtlfekknonjlopaaXY
namespace Go.Proofs.Ytlfekknonjlopaa
open Go.RowKit
set_option linter.unusedVariables false
set_option linter.unusedSimpArgs false
set_option maxHeartbeats 0
set_option maxRecDepth 100000
variable {C : World → Prop}
theorem lk_ne {x y : Flw} (h : ¬ y = x) : ∀ ms : List (Flw × Value × Nat), lkM y (rmM x ms) = lkM y ms
  | [] => rfl
  | e :: l => by
    unfold rmM
    split
    · rename_i e1
      rw [lkM, if_neg (by rw [← e1]; exact h)]
    · rw [lkM, lkM, lk_ne h l]
theorem lk_mem {x : Flw} : ∀ {ms : List (Flw × Value × Nat)}, x ∉ ms.map (·.1) → lkM x ms = none
  | [], _ => rfl
  | e :: l, h => by
    simp only [List.map_cons, List.mem_cons, not_or] at h
    rw [lkM, if_neg h.1, lk_mem h.2]
theorem lk_eq {x : Flw} : ∀ {ms : List (Flw × Value × Nat)}, (ms.map (·.1)).Nodup → lkM x (rmM x ms) = none
  | [], _ => rfl
  | e :: l, h => by
    rw [List.map_cons, List.nodup_cons] at h
    unfold rmM
    split
    · rename_i e1
      rw [e1]
      exact lk_mem h.1
    · rename_i e1
      rw [lkM, if_neg e1, lk_eq h.2]
theorem rm_sub (x : Flw) : ∀ ms : List (Flw × Value × Nat), (rmM x ms).Sublist ms
  | [] => List.Sublist.refl _
  | e :: l => by
    unfold rmM
    split
    · exact List.sublist_cons_self _ _
    · exact (rm_sub x l).cons_cons e
def MM (now : Int) (L : List (Nat × Liv)) (x : Nat) : List (Nat × Liv) := (L.take x).filter (al now) ++ L.drop x
theorem drop_D (L : List (Nat × Liv)) (x : Nat) (h : x < L.length) : L.drop x = L.getD x lv0 :: L.drop (x + 1) := by
  rw [List.getD_eq_getElem?_getD, List.getElem?_eq_getElem h]
  exact List.drop_eq_getElem_cons h
theorem mm_sub (now : Int) (L : List (Nat × Liv)) (x : Nat) : (MM now L x).Sublist L := by
  have := (List.filter_sublist (p := al now) (l := L.take x)).append_right (L.drop x)
  rwa [List.take_append_drop] at this
theorem mm_ok {now : Int} {L : List (Nat × Liv)} {ms : List (Flw × Value × Nat)} (h : MapOk ms L) : ∀ x, x ≤ L.length → MapOk (msR now L ms x) (MM now L x)
  | 0, _ => by
    have : MM now L 0 = L := by simp [MM]
    rw [this]
    exact h
  | x + 1, hx => by
    have ih := mm_ok (now := now) h x (by omega)
    have hd := drop_D L x (by omega)
    have ht := take_succD L lv0 x (by omega)
    have fl : ((MM now L (x + 1)).map (·.2.f)).Nodup := h.fl.sublist ((mm_sub now L (x + 1)).map _)
    have e0 : MM now L x = (L.take x).filter (al now) ++ L.getD x lv0 :: L.drop (x + 1) := by rw [MM, hd]
    by_cases q : al now (L.getD x lv0) = true
    · have e1 : MM now L (x + 1) = MM now L x := by rw [MM, MM, ht, hd, List.filter_append, List.filter_cons, if_pos q, List.filter_nil, List.append_assoc]; rfl
      rw [msR, if_pos q, e1]
      exact ih
    · have e1 : MM now L (x + 1) = (L.take x).filter (al now) ++ L.drop (x + 1) := by rw [MM, ht, List.filter_append, List.filter_cons, if_neg q, List.filter_nil, List.append_nil]
      rw [msR, if_neg q]
      refine ⟨ih.nd.sublist ((rm_sub _ _).map _), fun y => ?_, fl⟩
      by_cases e : y = (L.getD x lv0).2.f
      · subst e
        rw [lk_eq ih.nd]
        have : (MM now L (x + 1)).find? (fun p => decide (p.2.f = (L.getD x lv0).2.f)) = none := by
          rw [List.find?_eq_none]
          intro p hp
          have hn := ih.fl
          rw [e0, List.map_append, List.map_cons] at hn
          have hp2 := (List.perm_middle.nodup_iff.1 hn)
          rw [List.nodup_cons] at hp2
          rw [e1] at hp
          have : p.2.f ∈ (((L.take x).filter (al now)).map (·.2.f)) ++ (L.drop (x + 1)).map (·.2.f) := by
            rw [← List.map_append]
            exact List.mem_map_of_mem (f := fun p : Nat × Liv => p.2.f) hp
          simp only [decide_eq_true_eq]
          intro e
          exact hp2.1 (e ▸ this)
        rw [this]
        rfl
      · rw [lk_ne e, ih.lk y, e0, e1, List.find?_append, List.find?_append, List.find?_cons]
        have : decide ((L.getD x lv0).2.f = y) = false := decide_eq_false fun h => e h.symm
        simp only [this]
theorem mm_end (now : Int) (L : List (Nat × Liv)) : MM now L L.length = L.filter (al now) := by
  rw [MM, List.take_length, List.drop_length, List.append_nil]
theorem mm_has {now : Int} {L : List (Nat × Liv)} {ms : List (Flw × Value × Nat)} (h : MapOk ms L) (x : Nat) (hx : x < L.length) : ∃ v, lkM (L.getD x lv0).2.f (msR now L ms x) = some v := by
  have ih := mm_ok (now := now) h x (by omega)
  rw [ih.lk]
  cases q : (MM now L x).find? fun p => decide (p.2.f = (L.getD x lv0).2.f) with
  | some p => exact ⟨_, rfl⟩
  | none =>
    rw [List.find?_eq_none] at q
    have := q (L.getD x lv0) (by rw [MM, drop_D L x hx]; simp)
    simp at this
theorem zs_take {now : Int} {L : List (Nat × Liv)} {Z : List Value} (hZ : L.length ≤ Z.length) : ∀ x, x ≤ L.length → (Zs now L Z x).take (kc now L x) = ((L.take x).filter (al now)).map fun p => ptr p.1
  | 0, _ => by simp [kc]
  | x + 1, h => by
    have ih := zs_take (now := now) hZ x (by omega)
    have ht := take_succD L lv0 x (by omega)
    have hk := kc_le now L x
    have hl := zs_len now L Z x
    rw [ht, List.filter_append, List.filter_cons]
    rw [show Zs now L Z (x + 1) = if al now (L.getD x lv0) = true then (Zs now L Z x).set (kc now L x) (.pointer (some ⟨(L.getD x lv0).1, 0, none⟩)) else Zs now L Z x from rfl, show kc now L (x + 1) = if al now (L.getD x lv0) = true then kc now L x + 1 else kc now L x from rfl]
    by_cases q : al now (L.getD x lv0) = true
    · rw [if_pos q, if_pos q, if_pos q, List.filter_nil, List.map_append, ← ih, List.take_add_one, List.take_set_of_le (by omega), List.getElem?_set, if_pos rfl, if_pos (by omega)]
      rfl
    · rw [if_neg q, if_neg q, if_neg q, List.filter_nil, List.append_nil, ih]
theorem kc_cnt (now : Int) (L : List (Nat × Liv)) : ∀ x, x ≤ L.length → kc now L x = ((L.take x).filter (al now)).length
  | 0, _ => by simp [kc]
  | x + 1, h => by
    have ih := kc_cnt now L x (by omega)
    have ht := take_succD L lv0 x (by omega)
    rw [ht, List.filter_append, List.filter_cons, List.length_append, ← ih]
    rw [show kc now L (x + 1) = if al now (L.getD x lv0) = true then kc now L x + 1 else kc now L x from rfl]
    by_cases q : al now (L.getD x lv0) = true
    · rw [if_pos q, if_pos q]; rfl
    · rw [if_neg q, if_neg q]; rfl
theorem end_buf {now : Int} {L : List (Nat × Liv)} {Z : List Value} {gl cap : Nat} (hc : L.length ≤ cap) (hZ : Z.length = cap) : Buf 1 89 (L.filter (al now)).length ((L.filter (al now)).map fun p => ptr p.1) (.slice (some ⟨gl, 0, none⟩) (kc now L L.length) cap) [⟨gl, .cells (endZ now L Z).toArray 89 (0, 0)⟩] := by
  have h1 := kc_cnt now L L.length (Nat.le_refl _)
  have h2 := zs_take (now := now) (Z := Z) (by omega) L.length (Nat.le_refl _)
  have h3 := zs_len now L Z L.length
  have h4 := kc_le now L L.length
  rw [List.take_length] at h1 h2
  refine ⟨by simp, .inr ⟨gl, cap, endZ now L Z, by rw [h1], by omega, ?_, ?_, rfl⟩⟩
  · unfold endZ
    simp only [List.length_append, List.length_take, List.length_replicate, List.length_drop]
    omega
  · unfold endZ
    rw [← h1, Nat.mul_one, List.take_append_of_le_length (by rw [List.length_take]; omega), List.take_take, Nat.min_self, h2]
def psA (a : Ans) (now : Int) : Ans := { a with now := max a.now now, l := a.l.filter fun y => decide (y.u > max a.now now) }
theorem fil_map (now : Int) (L : List (Nat × Liv)) : (L.filter (al now)).map (·.2) = (L.map (·.2)).filter fun y => decide (y.u > now) := by
  induction L with
  | nil => rfl
  | cons p L ih =>
    rw [List.filter_cons, List.map_cons, List.filter_cons, show al now p = decide (p.2.u > now) from rfl]
    cases decide (p.2.u > now) with
    | true => rw [if_pos rfl, if_pos rfl, List.map_cons, ih]
    | false => rw [if_neg Bool.false_ne_true, if_neg Bool.false_ne_true, ih]
theorem firstF (p : Nat → Bool) : ∀ n, (∀ i, i < n → p i = true) ∨ ∃ k, k < n ∧ p k = false ∧ ∀ i, i < k → p i = true
  | 0 => .inl fun i h => by omega
  | n + 1 => by
    rcases firstF p n with h | ⟨k, h1, h2⟩
    · by_cases e : p n = true
      · refine .inl fun i hi => ?_
        by_cases q : i = n
        · rw [q, e]
        · exact h i (by omega)
      · exact .inr ⟨n, by omega, by simpa using e, h⟩
    · exact .inr ⟨k, by omega, h2⟩
theorem c_apass (ga : Nat) (a : Ans) (now : Int) (hl : a.l.length < 100000) : Ct S0 C 44 [vV (.pointer (some ⟨ga, 0, none⟩)), vV (.int .u64 now)] [] [tD (ansG ga a)] [gap] [tD (ansG ga (psA a now))] (vT []) := by
  refine xIn Try.f44 fun E0 w0 hL hC hk => ?_
  refine xOpen (D := ansG ga a) 0 fun v0 T0 hv => ?_
  obtain ⟨gm, lv, Tl, L, ms, clock, hT, h1, h2, h3⟩ := hv
  obtain ⟨base, cap, rfl⟩ := buf_len h1
  obtain ⟨gl, H⟩ := buf_slo h1
  have hm : (⟨ga, .cells [.int .i64 a.most, .int .u64 a.life, .int .u64 a.now, .map (some gm), .slice base L.length cap].toArray 88 (0, 0)⟩ : Blk) ∈ [ansB ga gm (.slice base L.length cap) a.most a.life a.now] := List.mem_singleton.2 rfl
  have hm2 : (⟨ga, .cells [.int .i64 a.most, .int .u64 a.life, .int .u64 (max a.now now), .map (some gm), .slice base L.length cap].toArray 88 (0, 0)⟩ : Blk) ∈ [ansB ga gm (.slice base L.length cap) a.most a.life (max a.now now)] := List.mem_singleton.2 rfl
  have hl2 : L.length = a.l.length := by rw [← h3, List.length_map]
  subst hT
  refine xSplit 0 [ansB ga gm (.slice base L.length cap) a.most a.life a.now] ([mapB gm ms clock] ++ (Tl ++ lvB L)) ?_
  refine xSplit 1 [mapB gm ms clock] (Tl ++ lvB L) ?_
  refine xSplit 2 Tl (lvB L) ?_
  refine xR 6 [(5, dLdX 23 0 _ _ 2 _ _ (.int .u64 a.now) hm rfl), (7, dMax 23 [23, 23] [false, false] .u64 a.now now), (10, dStX 23 0 [] [] ga 2 [.int .i64 a.most, .int .u64 a.life, .int .u64 a.now, .map (some gm), .slice base L.length cap] 88 (.int .u64 (max a.now now)) (by exact Nat.lt_of_lt_of_le (Nat.lt_succ_self 2) (by exact Nat.le_add_left 3 2)))] ?_
  rcases firstF (fun i => al (max a.now now) (L.getD i lv0)) L.length with q0 | ⟨k, k1, q1, q0⟩
  · refine xR 6 [(6, dLdX 86 0 _ _ 4 _ _ (.slice base L.length cap) hm2 rfl), (8, dC (c_del2 ga gm gl (.slice base L.length cap) a.most a.life (max a.now now) Tl (lvB L) L base cap H (fun x hx => lvB_mem hx) (by omega) q0) [4, 0, 3, 2]), (11, dStX 86 0 [] [] ga 4 [.int .i64 a.most, .int .u64 a.life, .int .u64 (max a.now now), .map (some gm), .slice base L.length cap] 88 (.slice base L.length cap) (by exact Nat.lt_succ_self 4))] ?_
    refine xPk (vV (.bool false)) [(0, tX [ansB ga gm (.slice base L.length cap) a.most a.life (max a.now now)]), (1, tX [mapB gm ms clock]), (2, tX Tl), (3, tX (lvB L))] (ansG ga (psA a now)) [] [] (fun E h => ⟨rfl, ?_⟩) ?_
    · refine ansG_mk (a := psA a now) h1 h2 ?_ _ _ rfl
      show _ = a.l.filter _
      rw [← h3, ← fil_map]
      congr 1
      exact (List.filter_eq_self.2 fun p hp => by
        obtain ⟨i, hi, rfl⟩ := List.getElem_of_mem hp
        have := q0 i hi
        rw [List.getD_eq_getElem?_getD, List.getElem?_eq_getElem hi] at this
        exact this).symm
    exact xRetC [5]
  · have h1' := h1
    rcases h1.2 with ⟨h0, -, -⟩ | ⟨gl', cap', Z, e, hc, hZ, hZt, rfl⟩
    · omega
    cases e
    have hz : ∀ i, i < L.length → Z[i]? = some (.pointer (some ⟨(L.getD i lv0).1, 0, none⟩)) := fun i hi => by
      have e1 : (Z.take (L.length * 1))[i]? = Z[i]? := by rw [List.getElem?_take, if_pos (by omega)]
      rw [← e1, hZt, List.getElem?_map, List.getElem?_eq_getElem hi]
      simp only [List.getD_eq_getElem?_getD, List.getElem?_eq_getElem hi]
      rfl
    refine xR 6 [(6, dLdX 86 0 _ _ 4 _ _ (.slice (some ⟨gl', 0, none⟩) L.length cap) hm2 rfl), (8, dC (c_del1 ga gm gl' (.slice (some ⟨gl', 0, none⟩) L.length cap) a.most a.life (max a.now now) (lvB L) L cap Z ms clock hz hc (by omega) (fun x hx => lvB_mem hx) (by omega) k k1 q0 q1 (fun x hx => mm_has h2 x hx)) [4, 0, 3, 1, 2]), (11, dStX 86 0 [] [] ga 4 [.int .i64 a.most, .int .u64 a.life, .int .u64 (max a.now now), .map (some gm), .slice (some ⟨gl', 0, none⟩) L.length cap] 88 (.slice (some ⟨gl', 0, none⟩) (kc (max a.now now) L L.length) cap) (by exact Nat.lt_succ_self 4))] ?_
    refine xDrop 3 (lvB L) (lvB (L.filter (al (max a.now now)))) (List.filter_sublist.map _) ?_
    refine xPk (vV (.bool false)) [(0, tX [ansB ga gm (.slice (some ⟨gl', 0, none⟩) (kc (max a.now now) L L.length) cap) a.most a.life (max a.now now)]), (1, tX [mapB gm (msR (max a.now now) L ms L.length) clock]), (2, tX [⟨gl', .cells (endZ (max a.now now) L Z).toArray 89 (0, 0)⟩]), (3, tX (lvB (L.filter (al (max a.now now)))))] (ansG ga (psA a now)) [] [] (fun E h => ⟨rfl, ?_⟩) ?_
    · refine ansG_mk (a := psA a now) (L := L.filter (al (max a.now now))) (end_buf hc (by omega)) ?_ ?_ _ _ rfl
      · have := mm_ok (now := max a.now now) h2 L.length (Nat.le_refl _)
        rwa [mm_end] at this
      · rw [fil_map, h3]
        rfl
    exact xRetC [5]
end Go.Proofs.Ytlfekknonjlopaa
