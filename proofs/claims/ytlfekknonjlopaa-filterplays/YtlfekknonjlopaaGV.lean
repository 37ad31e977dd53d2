/- FilterAnswers: what the law's own list tells of the filter's. -/
import Derived.Test.YtlfekknonjlopaaGU
import Derived.Test.YtlfekknonjlopaaXZ
namespace Go.Proofs.Ytlfekknonjlopaa
open Go.RowKit
set_option linter.unusedVariables false
set_option linter.unusedSimpArgs false
set_option maxHeartbeats 0
set_option maxRecDepth 100000
theorem rn_mem1 {x : Flw} {u : Int} {p : Liv} : ∀ {l : List Liv}, p ∈ rnL x u l → p ∈ l ∨ p = (x, u)
  | [], h => .inl h
  | q :: l, h => by
    rw [show rnL x u (q :: l) = if q.f = x then ⟨q.f, u⟩ :: l else q :: rnL x u l from rfl] at h
    split at h
    · rename_i e
      rcases List.mem_cons.1 h with rfl | h
      · exact .inr (by rw [e])
      · exact .inl (List.mem_cons_of_mem _ h)
    · rcases List.mem_cons.1 h with rfl | h
      · exact .inl (List.mem_cons_self ..)
      · exact (rn_mem1 h).imp_left (List.mem_cons_of_mem _)
theorem rn_mem2 {x : Flw} {u : Int} {p : Liv} (hp : ¬ p.f = x) : ∀ {l : List Liv}, p ∈ l → p ∈ rnL x u l
  | q :: l, h => by
    rw [show rnL x u (q :: l) = if q.f = x then ⟨q.f, u⟩ :: l else q :: rnL x u l from rfl]
    split
    · rename_i e
      rcases List.mem_cons.1 h with rfl | h
      · exact absurd e hp
      · exact List.mem_cons_of_mem _ h
    · rcases List.mem_cons.1 h with rfl | h
      · exact List.mem_cons_self ..
      · exact List.mem_cons_of_mem _ (rn_mem2 hp h)
theorem rn_mem3 {x : Flw} {u : Int} : ∀ {l : List Liv}, hasL x l = true → (x, u) ∈ rnL x u l
  | q :: l, h => by
    rw [show rnL x u (q :: l) = if q.f = x then ⟨q.f, u⟩ :: l else q :: rnL x u l from rfl]
    split
    · rename_i e
      rw [e]
      exact List.mem_cons_self ..
    · rename_i e
      refine List.mem_cons_of_mem _ (rn_mem3 ?_)
      simpa [hasL, e] using h
theorem has_iff {x : Flw} {l : List Liv} : hasL x l = true ↔ ∃ p ∈ l, p.f = x := by simp [hasL]
/-- The filter's answers a, told by the law's list L at time hi. -/
structure AnI (n0 lf : Int) (a : Ans) (L : List Liv) (hi : Int) : Prop where
  now : a.now = hi
  life : a.life = lf
  most : a.most = n0
  len : (a.l.length : Int) ≤ n0
  h0 : 0 ≤ hi
  h1 : hi < 4611686018427387904
  c1 : ∀ p ∈ a.l, ∃ e ∈ L, e.f = p.f ∧ e.u + lf = p.u
  c2 : ∀ e ∈ L, e.u + lf > hi → ∃ p ∈ a.l, p.f = e.f ∧ p.u ≥ e.u + lf
  c3 : ∀ e ∈ L, 0 ≤ e.u ∧ e.u ≤ hi
  c4 : ∀ p ∈ a.l, p.u > hi
theorem AnI.has {n0 lf : Int} {a : Ans} {L : List Liv} {hi : Int} (h : AnI n0 lf a L hi) (x : Flw) : hasL x a.l = awB L x lf hi := by
  rw [Bool.eq_iff_iff, has_iff]
  simp only [awB, List.any_eq_true, Bool.and_eq_true, decide_eq_true_iff]
  constructor
  · rintro ⟨p, hp, rfl⟩
    obtain ⟨e, he, e1, e2⟩ := h.c1 p hp
    exact ⟨e, he, e1, by rw [e2]; exact h.c4 p hp⟩
  · rintro ⟨e, he, rfl, e2⟩
    obtain ⟨p, hp, p1, _⟩ := h.c2 e he e2
    exact ⟨p, hp, p1⟩
theorem AnI.ps {n0 lf : Int} {a : Ans} {L : List Liv} {hi : Int} (h : AnI n0 lf a L hi) {u : Int} (h0 : 0 ≤ u) (h1 : u < 4611686018427387904) : AnI n0 lf (psA a u) L (max hi u) := by
  have hn := h.now
  have hl := ps_len a u
  refine ⟨by show max a.now u = _; rw [hn], h.life, h.most, ?_, by have := h.h0; omega, by have := h.h1; omega, fun p hp => ?_, fun e he hu => ?_, fun e he => ?_, fun p hp => ?_⟩
  · have := h.len; omega
  · exact h.c1 p (List.mem_filter.1 hp).1
  · obtain ⟨p, hp, e1, e2⟩ := h.c2 e he (by omega)
    exact ⟨p, List.mem_filter.2 ⟨hp, decide_eq_true (by rw [hn]; omega)⟩, e1, e2⟩
  · have := h.c3 e he; omega
  · have := (List.mem_filter.1 hp).2
    rw [decide_eq_true_iff, hn] at this
    exact this
theorem AnI.until {n0 lf : Int} {a : Ans} {L : List Liv} {hi : Int} (h : AnI n0 lf a L hi) (l0 : 1 ≤ lf) (l1 : lf ≤ 65536) : untF a.now a.life = hi + lf := by
  have := h.h0
  have := h.h1
  rw [h.now, h.life, untF, w64 (by omega) (by omega)]
theorem AnI.more {n0 lf : Int} {a : Ans} {L : List Liv} {hi : Int} (h : AnI n0 lf a L hi) (l0 : 1 ≤ lf) {x : Flw} {l : List Liv} (hlen : (l.length : Int) ≤ n0) (m1 : ∀ p ∈ l, p ∈ a.l ∨ p = (x, hi + lf)) (m2 : ∀ p ∈ a.l, ¬ p.f = x → p ∈ l) (m3 : (x, hi + lf) ∈ l) : AnI n0 lf { a with l := l } (L ++ [(x, hi)]) hi := by
  refine ⟨h.now, h.life, h.most, hlen, h.h0, h.h1, fun p hp => ?_, fun e he hu => ?_, fun e he => ?_, fun p hp => ?_⟩
  · rcases m1 p hp with h1 | rfl
    · obtain ⟨e, he, e1⟩ := h.c1 p h1
      exact ⟨e, List.mem_append_left _ he, e1⟩
    · exact ⟨(x, hi), List.mem_append_right _ (List.mem_singleton.2 rfl), rfl, rfl⟩
  · rcases List.mem_append.1 he with he | he
    · obtain ⟨p, hp, e1, e2⟩ := h.c2 e he hu
      by_cases e3 : p.f = x
      · refine ⟨(x, hi + lf), m3, by rw [← e1, e3], ?_⟩
        have := (h.c3 e he).2
        show hi + lf ≥ _
        omega
      · exact ⟨p, m2 p hp e3, e1, e2⟩
    · rw [List.mem_singleton.1 he]
      exact ⟨(x, hi + lf), m3, rfl, Int.le_refl _⟩
  · rcases List.mem_append.1 he with he | he
    · exact h.c3 e he
    · rw [List.mem_singleton.1 he]
      exact ⟨h.h0, Int.le_refl _⟩
  · rcases m1 p hp with h1 | rfl
    · exact h.c4 p h1
    · show hi + lf > hi
      omega
theorem AnI.rn {n0 lf : Int} {a : Ans} {L : List Liv} {hi : Int} (h : AnI n0 lf a L hi) (l0 : 1 ≤ lf) (l1 : lf ≤ 65536) {x : Flw} (hx : hasL x a.l = true) : AnI n0 lf (rnA a x) (L ++ [(x, hi)]) hi := by
  have hu := h.until l0 l1
  unfold rnA
  rw [hu]
  exact h.more l0 (by rw [rn_len]; exact h.len) (fun p hp => rn_mem1 hp) (fun p hp hf => rn_mem2 hf hp) (rn_mem3 hx)
theorem AnI.ad {n0 lf : Int} {a : Ans} {L : List Liv} {hi : Int} (h : AnI n0 lf a L hi) (l0 : 1 ≤ lf) (l1 : lf ≤ 65536) {x : Flw} (hr : (a.l.length : Int) < a.most) : AnI n0 lf (adA a x).2 (L ++ [(x, hi)]) hi := by
  have hu := h.until l0 l1
  rw [ad_room x hr]
  show AnI n0 lf { a with l := a.l ++ [(x, untF a.now a.life)] } _ _
  rw [hu]
  have hm := h.most
  refine h.more l0 (by rw [List.length_append]; simp; omega) (fun p hp => ?_) (fun p hp _ => List.mem_append_left _ hp) (List.mem_append_right _ (List.mem_singleton.2 rfl))
  rcases List.mem_append.1 hp with h1 | h1
  · exact .inl h1
  · exact .inr (List.mem_singleton.1 h1)
theorem rnA_miss {a : Ans} {x : Flw} (h : hasL x a.l = false) : rnA a x = a := by
  unfold rnA
  rw [rn_miss h]
/-- Where the law stands behind its first steps. -/
structure AnS where
  a : Ans
  l : List Liv
  hi : Int
  r : List Rul
  v : Value
def anN (lf : Int) (s : Stp) (sv : Value) (z : AnS) : AnS :=
  if s.n ≥ 4611686018427387904 then z
  else if s.o = 2 then { z with r := s.r, v := sv }
  else if s.o = 0 then ⟨(outF s.h.f z.a s.n).2, if (outF s.h.f z.a s.n).1 = 0 then z.l ++ [(revF s.h.f, max z.hi s.n)] else z.l, max z.hi s.n, z.r, z.v⟩
  else ⟨(inF (matF z.r s.h.f) s.h.f z.a s.n).2, if ¬ matF z.r s.h.f ≥ 0 ∧ awB z.l s.h.f lf (max z.hi s.n) = true then z.l ++ [(s.h.f, max z.hi s.n)] else z.l, max z.hi s.n, z.r, z.v⟩
def anR (n0 lf : Int) (l : List Rul) (v : Value) (S : List Stp) (sv : Nat → Value) : Nat → AnS
  | 0 => ⟨⟨n0, lf, 0, []⟩, [], 0, l, v⟩
  | n + 1 => anN lf (S.getD n st0) (sv n) (anR n0 lf l v S sv n)
/-- What comes of one step: the filter's answer, and where the law then stands. -/
theorem an_out {n0 lf : Int} {z : AnS} (h : AnI n0 lf z.a z.l z.hi) (l0 : 1 ≤ lf) (l1 : lf ≤ 65536) (x : Flw) {u : Int} (u0 : 0 ≤ u) (u1 : u < 4611686018427387904) :
    (((outF x z.a u).1 = 0 ∧ AnI n0 lf (outF x z.a u).2 (z.l ++ [(revF x, max z.hi u)]) (max z.hi u)) ∨ ((outF x z.a u).1 = 6 ∧ awB z.l (revF x) lf (max z.hi u) = false ∧ ((outF x z.a u).2.l.length : Int) = n0 ∧ AnI n0 lf (outF x z.a u).2 z.l (max z.hi u))) := by
  have hp := h.ps u0 u1
  have hh := hp.has (revF x)
  unfold outF
  split
  · rename_i e
    exact .inl ⟨rfl, hp.rn l0 l1 e⟩
  · rename_i e
    have e : hasL (revF x) (psA z.a u).l = false := by simpa using e
    rw [rnA_miss e]
    by_cases hr : ((psA z.a u).l.length : Int) < (psA z.a u).most
    · exact .inl ⟨by rw [ad_room _ hr], hp.ad l0 l1 hr⟩
    · have e2 : adA (psA z.a u) (revF x) = (6, psA z.a u) := if_pos (by omega)
      rw [e2]
      have := hp.most
      have := hp.len
      exact .inr ⟨rfl, by rw [← hh, e], by show ((psA z.a u).l.length : Int) = n0; omega, hp⟩
theorem an_in {n0 lf : Int} {z : AnS} (h : AnI n0 lf z.a z.l z.hi) (l0 : 1 ≤ lf) (l1 : lf ≤ 65536) (m : Int) (x : Flw) {u : Int} (u0 : 0 ≤ u) (u1 : u < 4611686018427387904) :
    (m ≥ 0 ∧ (inF m x z.a u).1 = 0 ∧ AnI n0 lf (inF m x z.a u).2 z.l (max z.hi u)) ∨ (¬ m ≥ 0 ∧ awB z.l x lf (max z.hi u) = true ∧ (inF m x z.a u).1 = 0 ∧ AnI n0 lf (inF m x z.a u).2 (z.l ++ [(x, max z.hi u)]) (max z.hi u)) ∨ (¬ m ≥ 0 ∧ awB z.l x lf (max z.hi u) = false ∧ (inF m x z.a u).1 = 210 ∧ AnI n0 lf (inF m x z.a u).2 z.l (max z.hi u)) := by
  have hp := h.ps u0 u1
  have hh := hp.has x
  unfold inF
  split
  · rename_i e
    exact .inl ⟨e, rfl, hp⟩
  · rename_i e
    cases e2 : hasL x (psA z.a u).l
    · rw [rnA_miss e2]
      exact .inr (.inr ⟨e, by rw [← hh, e2], rfl, hp⟩)
    · exact .inr (.inl ⟨e, by rw [← hh, e2], rfl, hp.rn l0 l1 e2⟩)
theorem an_inv {n0 lf : Int} (m0 : 1 ≤ n0) (l0 : 1 ≤ lf) (l1 : lf ≤ 65536) (l : List Rul) (v : Value) (S : List Stp) (sv : Nat → Value) (hn : ∀ i, i < S.length → 0 ≤ (S.getD i st0).n) : ∀ n, n ≤ S.length → AnI n0 lf (anR n0 lf l v S sv n).a (anR n0 lf l v S sv n).l (anR n0 lf l v S sv n).hi
  | 0, _ => ⟨rfl, rfl, rfl, by show (0 : Int) ≤ n0; omega, Int.le_refl _, by show (0 : Int) < _; decide, fun p hp => (by cases hp), fun e he => (by cases he), fun e he => (by cases he), fun p hp => (by cases hp)⟩
  | n + 1, hle => by
    have ih := an_inv m0 l0 l1 l v S sv hn n (by omega)
    have u0 := hn n (by omega)
    show AnI n0 lf (anN lf (S.getD n st0) (sv n) (anR n0 lf l v S sv n)).a (anN lf (S.getD n st0) (sv n) (anR n0 lf l v S sv n)).l (anN lf (S.getD n st0) (sv n) (anR n0 lf l v S sv n)).hi
    generalize anR n0 lf l v S sv n = z at ih ⊢
    unfold anN
    split
    · exact ih
    · rename_i hb
      have u1 : (S.getD n st0).n < 4611686018427387904 := by omega
      split
      · exact ih
      · split
        · rcases an_out ih l0 l1 (S.getD n st0).h.f u0 u1 with ⟨e, h⟩ | ⟨e, _, _, h⟩
          · simp only [e, if_true]
            exact h
          · simp only [e, if_false, show ¬ (6 : Int) = 0 by decide]
            exact h
        · rcases an_in ih l0 l1 (matF z.r (S.getD n st0).h.f) (S.getD n st0).h.f u0 u1 with ⟨e, _, h⟩ | ⟨e, e2, _, h⟩ | ⟨e, e2, _, h⟩
          · simp only [e, not_true, false_and, if_false]
            exact h
          · simp only [e, e2, not_false_eq_true, and_self, if_true]
            exact h
          · simp only [e2, Bool.false_eq_true, and_false, if_false]
            exact h
theorem anR_len (n0 lf : Int) (l : List Rul) (v : Value) (S : List Stp) (sv : Nat → Value) : ∀ n, (anR n0 lf l v S sv n).l.length ≤ n
  | 0 => Nat.le_refl _
  | n + 1 => by
    have ih := anR_len n0 lf l v S sv n
    show (anN lf (S.getD n st0) (sv n) (anR n0 lf l v S sv n)).l.length ≤ n + 1
    generalize anR n0 lf l v S sv n = z at ih ⊢
    unfold anN
    split
    · omega
    · split
      · show z.l.length ≤ _; omega
      · split
        · show (if _ then _ else _ : List Liv).length ≤ _
          split
          · rw [List.length_append]; simp; omega
          · omega
        · show (if _ then _ else _ : List Liv).length ≤ _
          split
          · rw [List.length_append]; simp; omega
          · omega
theorem anR_r {n0 lf : Int} {l : List Rul} {v : Value} {S : List Stp} {sv : Nat → Value} (P : List Rul → Value → Prop) (h0 : P l v) (h1 : ∀ i, i < S.length → P (S.getD i st0).r (sv i)) : ∀ n, n ≤ S.length → P (anR n0 lf l v S sv n).r (anR n0 lf l v S sv n).v
  | 0, _ => h0
  | n + 1, hle => by
    have ih := anR_r (n0 := n0) (lf := lf) P h0 h1 n (by omega)
    have h2 := h1 n (by omega)
    show P (anN lf (S.getD n st0) (sv n) (anR n0 lf l v S sv n)).r (anN lf (S.getD n st0) (sv n) (anR n0 lf l v S sv n)).v
    generalize anR n0 lf l v S sv n = z at ih ⊢
    unfold anN
    split
    · exact ih
    · split
      · exact h2
      · split <;> exact ih
end Go.Proofs.Ytlfekknonjlopaa
