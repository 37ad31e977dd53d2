/- A tunnel by what it has: what each call answers. -/
import Derived.Test.YtenafinbaanicaaDoorT3
namespace Go.Proofs.YtenafinbaanicaaDoor
open Go.RowKit
set_option maxRecDepth 100000

theorem a_Over {p : Nat} {x : TS} {T : List Blk} {n : Nat} (hI : IsT p x T) (hn : n < 18446744073709551616) (w : World) (hL : Laid w) (hT : There w T) : Calls Tryd.prog 13 #[.pointer (some ⟨p, 0, none⟩), .int .u64 (n : Int)] w fun r w' => r = .returned (.bool (x.ov n)) ∧ Below w.heap.size w w' := by
  obtain ⟨e, wd, k, md, h, m, rfl, I, hh⟩ := hI.out
  exact c_TOver hn w hL hT
theorem a_Wants {p : Nat} {x : TS} {T : List Blk} {n : Nat} (hI : IsT p x T) (hn : n < 18446744073709551616) (w : World) (hL : Laid w) (hT : There w T) : Calls Tryd.prog 14 #[.pointer (some ⟨p, 0, none⟩), .int .u64 (n : Int)] w fun r w' => r = .returned (.bool (x.wn n)) ∧ Below w.heap.size w w' := by
  obtain ⟨e, wd, k, md, h, m, rfl, I, hh⟩ := hI.out
  exact c_TWants hn w hL hT
theorem a_Sure {p : Nat} {x : TS} {T : List Blk} (hI : IsT p x T) (w : World) (hL : Laid w) (hT : There w T) : Calls Tryd.prog 15 #[.pointer (some ⟨p, 0, none⟩)] w fun r w' => r = .returned (.bool x.su) ∧ Below w.heap.size w w' := by
  obtain ⟨e, wd, k, md, h, m, rfl, I, hh⟩ := hI.out
  exact c_TSure w hL hT
theorem a_Sent {p : Nat} {x : TS} {T : List Blk} (hI : IsT p x T) (w : World) (hL : Laid w) (hT : There w T) : Calls Tryd.prog 16 #[.pointer (some ⟨p, 0, none⟩)] w fun r w' => r = .returned (.int .u64 ((x.nx : Nat) : Int)) ∧ Below w.heap.size w w' := by
  obtain ⟨e, wd, k, md, h, m, rfl, I, hh⟩ := hI.out
  exact c_TSent w hL hT
theorem sX_same (x : TS) (n : Nat) (s : ByteArray) : (x.sX n s).sz = x.sz ∧ (x.sX n s).q = x.q ∧ (x.sX n s).ct = x.ct := by
  unfold TS.sX
  split <;> exact ⟨rfl, rfl, rfl⟩
theorem oX_same (x : TS) (n i : Nat) (c : ByteArray) : (x.oX n i c).sz = x.sz ∧ (x.oX n i c).nx = x.nx ∧ (x.oX n i c).ct = x.ct := by
  unfold TS.oX
  split <;> exact ⟨rfl, rfl, rfl⟩
theorem sF_zero {x : TS} {n : Nat} (h : x.sF n = 0) : x.ov n = false ∧ x.nx < x.ct ∧ x.su = true := by
  unfold TS.sF slF at h
  unfold TS.ov
  cases h1 : ovB x.sd x.lf x.mt n
  · rw [h1, if_neg (by decide)] at h
    by_cases h2 : x.ct ≤ x.nx
    · rw [if_pos h2] at h
      cases h
    · rw [if_neg h2] at h
      cases h3 : x.su
      · rw [h3] at h
        cases h
      · exact ⟨rfl, by omega, rfl⟩
  · rw [h1, if_pos rfl] at h
    cases h
theorem TS.Ok.seal {x : TS} (h : x.Ok) (n : Nat) (s : ByteArray) : (x.sX n s).Ok := by
  unfold TS.sX
  by_cases h0 : x.sF n = 0
  · rw [if_pos h0]
    have h3 := (sF_zero h0).2.1
    refine ⟨h.s1, h.s2, h.c, ?_⟩
    show slX x.sd x.nx s ≤ x.ct
    unfold slX
    split <;> omega
  · rw [if_neg h0]
    exact h
theorem TS.Ok.open {x : TS} (h : x.Ok) (n i : Nat) (c : ByteArray) : (x.oX n i c).Ok := by
  obtain ⟨h1, h2, h3⟩ := oX_same x n i c
  exact ⟨by rw [h1]; exact h.s1, by rw [h1]; exact h.s2, by rw [h3]; exact h.c, by rw [h2, h3]; exact h.n⟩
theorem TS.Ok.wipe {x : TS} (h : x.Ok) : x.wX.Ok := ⟨h.s1, h.s2, h.c, h.n⟩
theorem a_Seal {p : Nat} {x : TS} {T : List Blk} {n : Nat} {s : ByteArray} (hI : IsT p x T) (ok : x.Ok) (hn : n < 18446744073709551616) (w : World) (hL : Laid w) (hT : There w T) : Calls Tryd.prog 8 #[.pointer (some ⟨p, 0, none⟩), .int .u64 (n : Int), .string s] w fun r w' => ∃ T', r = .returned (.tuple #[.int .u64 ((x.sN n s : Nat) : Int), .string (x.sC n s), .int .i64 (x.sE n s)]) ∧ IsT p (x.sX n s) T' ∧ OkT w w' T T' := by
  obtain ⟨e, wd, k, md, h, m, rfl, I, hh⟩ := hI.out
  have hx := ok.n
  have hc := ok.c
  obtain ⟨h1, h2, _⟩ := sX_same x n s
  exact (c_TSeal hn (by omega) w hL hT).mono fun _ _ ⟨he, hk⟩ => ⟨_, he, ⟨e, wd, k, md, h, m, rfl, by rw [h1, h2]; exact I, hh⟩, hk⟩
theorem a_Open {p : Nat} {x : TS} {T : List Blk} {n i : Nat} {c : ByteArray} (hI : IsT p x T) (ok : x.Ok) (hn : n < 18446744073709551616) (hi : i < 18446744073709551616) (w : World) (hL : Laid w) (hT : There w T) : Calls Tryd.prog 9 #[.pointer (some ⟨p, 0, none⟩), .int .u64 (n : Int), .int .u64 (i : Int), .string c] w fun r w' => ∃ T', r = .returned (.tuple #[.string (x.oC n i c), .int .i64 (x.oE n i c)]) ∧ IsT p (x.oX n i c) T' ∧ OkT w w' T T' := by
  obtain ⟨e, wd, k, md, h, m, rfl, I, hh⟩ := hI.out
  exact (c_TOpen hn hi ok.s1 hh I w hL hT).mono fun _ _ ⟨y, he, ⟨h1, h2⟩, hk⟩ => ⟨_, he, ⟨e, wd, k, md, y.1, y.2, rfl, h1, h2⟩, hk⟩
theorem a_Wipe {p : Nat} {x : TS} {T : List Blk} (hI : IsT p x T) (w : World) (hL : Laid w) (hT : There w T) : Calls Tryd.prog 10 #[.pointer (some ⟨p, 0, none⟩)] w fun r w' => ∃ T', r = .returned (.tuple #[]) ∧ IsT p x.wX T' ∧ OkT w w' T T' := by
  obtain ⟨e, wd, k, md, h, m, rfl, I, hh⟩ := hI.out
  exact (c_TWipe w hL hT).mono fun _ _ ⟨he, hk⟩ => ⟨_, he, ⟨e, wd, k, md, h, m, rfl, I, hh⟩, hk⟩
theorem ne_empty {s : ByteArray} {n : Nat} (h : s.size = n) (hn : n ≠ 0) : s ≠ ⟨#[]⟩ := fun e => hn (by rw [← h, e]; rfl)
theorem ov_no {x : TS} {n : Nat} (h1 : x.sd.size = 32) (h2 : n - x.mt < x.lf) : x.ov n = false := decide_eq_false (by
  rintro (h | h)
  · exact ne_empty h1 (by decide) h
  · omega)
theorem ov_yes {x : TS} {n : Nat} (h2 : x.lf ≤ n - x.mt) : x.ov n = true := decide_eq_true (.inr h2)
theorem sF_ok {x : TS} {n : Nat} (h1 : x.ov n = false) (h3 : x.nx < x.ct) (h4 : x.su = true) : x.sF n = 0 := by
  unfold TS.sF slF
  unfold TS.ov at h1
  rw [h1, if_neg (by decide), if_neg (by omega), if_pos h4]
theorem slZ_ok {sd s : ByteArray} {nx : Nat} (h : sd.size = 32) (hs : s.size ≤ 65536) : slZ sd nx s = 0 := sf_ok ⟨h, nS_size _⟩ (Nat.zero_le _) (by omega) (Nat.zero_le _)
/-- A text is sealed. -/
theorem s_ok {p : Nat} {x : TS} {T : List Blk} {n : Nat} {s : ByteArray} (hI : IsT p x T) (ok : x.Ok) (hn : n < 18446744073709551616) (h1 : x.sd.size = 32) (h2 : n - x.mt < x.lf) (h3 : x.nx < x.ct) (h4 : x.su = true) (h5 : s.size ≤ 65536) (w : World) (hL : Laid w) (hT : There w T) : Calls Tryd.prog 8 #[.pointer (some ⟨p, 0, none⟩), .int .u64 (n : Int), .string s] w fun r w' => ∃ T', r = .returned (.tuple #[.int .u64 ((x.nx : Nat) : Int), .string (sealS x.sd (nS (x.nx : Int)) ⟨#[]⟩ s), .int .i64 0]) ∧ IsT p { x with nx := x.nx + 1 } T' ∧ OkT w w' T T' := by
  have e0 := sF_ok (ov_no h1 h2) h3 h4
  have e1 := slZ_ok (nx := x.nx) h1 h5
  have h := a_Seal (s := s) hI ok hn w hL hT
  unfold TS.sN TS.sC TS.sE TS.sX slN slC slX at h
  rw [if_pos e0, if_pos e0, if_pos e0, if_pos e0, if_pos e1, if_pos e1, if_pos e1, e1] at h
  exact h
/-- None is sealed by who is not sure. -/
theorem s_no {p : Nat} {x : TS} {T : List Blk} {n : Nat} {s : ByteArray} (hI : IsT p x T) (ok : x.Ok) (hn : n < 18446744073709551616) (h1 : x.sd.size = 32) (h2 : n - x.mt < x.lf) (h3 : x.nx < x.ct) (h4 : x.su = false) (w : World) (hL : Laid w) (hT : There w T) : Calls Tryd.prog 8 #[.pointer (some ⟨p, 0, none⟩), .int .u64 (n : Int), .string s] w fun r w' => ∃ T', r = .returned (.tuple #[.int .u64 0, .string ⟨#[]⟩, .int .i64 3]) ∧ IsT p x T' ∧ OkT w w' T T' := by
  have e0 : x.sF n = 3 := by
    have h5 := ov_no h1 h2
    unfold TS.ov at h5
    unfold TS.sF slF
    rw [h5, if_neg (by decide), if_neg (by omega), h4]
    rfl
  have e1 : ¬ (3 : Int) = 0 := by decide
  have h := a_Seal (s := s) hI ok hn w hL hT
  unfold TS.sN TS.sC TS.sE TS.sX at h
  rw [e0, if_neg e1, if_neg e1, if_neg e1, if_neg e1] at h
  exact h
theorem oF_ok {x : TS} {n i : Nat} (h1 : x.ov n = false) (h3 : i < x.ct) : x.oF n i = my x.sz x.q i := by
  unfold TS.oF opF
  unfold TS.ov at h1
  rw [h1, if_neg (by decide), if_neg (by omega)]
theorem opZ_seal {rv s : ByteArray} {i : Nat} (h : rv.size = 32) (hs : s.size ≤ 65536) : opZ rv i (sealS rv (nS (i : Int)) ⟨#[]⟩ s) = 0 := by
  unfold opZ
  rw [if_pos (seal_ok (slZ_ok (nx := i) h hs)), if_pos (seal_tg _ _ _ _)]
theorem mk_yes' {s n : Nat} {l : List Nat} (h : my s l n = 0) : mk s l n = l ++ [n] := by
  unfold mk
  rw [if_pos h]
/-- What was sealed opens, as it was. -/
theorem o_ok {p : Nat} {x : TS} {T : List Blk} {n i : Nat} {s : ByteArray} (hI : IsT p x T) (ok : x.Ok) (hn : n < 18446744073709551616) (hi : i < 18446744073709551616) (h1 : x.sd.size = 32) (hr : x.rv.size = 32) (h2 : n - x.mt < x.lf) (h3 : i < x.ct) (h4 : my x.sz x.q i = 0) (h5 : s.size ≤ 65536) (w : World) (hL : Laid w) (hT : There w T) : Calls Tryd.prog 9 #[.pointer (some ⟨p, 0, none⟩), .int .u64 (n : Int), .int .u64 (i : Int), .string (sealS x.rv (nS (i : Int)) ⟨#[]⟩ s)] w fun r w' => ∃ T', r = .returned (.tuple #[.string s, .int .i64 0]) ∧ IsT p { x with su := true, q := x.q ++ [i] } T' ∧ OkT w w' T T' := by
  have e0 : x.oF n i = 0 := by rw [oF_ok (ov_no h1 h2) h3, h4]
  have e1 := opZ_seal (i := i) hr h5
  have h := a_Open (i := i) (c := sealS x.rv (nS (i : Int)) ⟨#[]⟩ s) hI ok hn hi w hL hT
  unfold TS.oC TS.oE TS.oX opC opU opQ at h
  rw [if_pos e0, if_pos e0, if_pos e0, if_pos e1, if_pos e1, if_pos e1, e1, seal_op, mk_yes' h4] at h
  exact h
/-- A number that may not be is refused, whatever is with it. -/
theorem o_no {p : Nat} {x : TS} {T : List Blk} {n i : Nat} {c : ByteArray} (hI : IsT p x T) (ok : x.Ok) (hn : n < 18446744073709551616) (hi : i < 18446744073709551616) (h1 : x.sd.size = 32) (h2 : n - x.mt < x.lf) (h3 : i < x.ct) (h4 : ¬ my x.sz x.q i = 0) (w : World) (hL : Laid w) (hT : There w T) : Calls Tryd.prog 9 #[.pointer (some ⟨p, 0, none⟩), .int .u64 (n : Int), .int .u64 (i : Int), .string c] w fun r w' => ∃ T', r = .returned (.tuple #[.string ⟨#[]⟩, .int .i64 (my x.sz x.q i)]) ∧ IsT p x T' ∧ OkT w w' T T' := by
  have e0 : x.oF n i = my x.sz x.q i := oF_ok (ov_no h1 h2) h3
  have h := a_Open (i := i) (c := c) hI ok hn hi w hL hT
  unfold TS.oC TS.oE TS.oX at h
  rw [e0, if_neg h4, if_neg h4, if_neg h4] at h
  exact h

end Go.Proofs.YtenafinbaanicaaDoor
