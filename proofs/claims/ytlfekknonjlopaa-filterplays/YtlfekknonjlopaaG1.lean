/- Answers: what is told of them; those of their calls that ask. -/
import Derived.Test.YtlfekknonjlopaaG0
namespace Go.Proofs.Ytlfekknonjlopaa
open Go.RowKit
set_option linter.unusedVariables false
set_option linter.unusedSimpArgs false
set_option maxHeartbeats 0
set_option maxRecDepth 100000
variable {C : World → Prop}
abbrev DP := Value → List Blk → Prop
structure Ans where
  most : Int
  life : Int
  now : Int
  l : List Liv
def ptr (g : Nat) : Value := .pointer (some ⟨g, 0, none⟩)
abbrev flS (x : Flw) : SV := vG [vV (.int .u8 x.p), vV (.bool x.s.v), vV (.int .u64 x.s.h), vV (.int .u64 x.s.l), vV (.bool x.d.v), vV (.int .u64 x.d.h), vV (.int .u64 x.d.l), vV (.int .u16 x.fr), vV (.int .u16 x.to)]
theorem flS_den (x : Flw) (E : Nat → Ent) : (flS x).den E = flV x := rfl
abbrev ansB (ga gm : Nat) (lv : Value) (most life now : Int) : Blk := ⟨ga, .cells [.int .i64 most, .int .u64 life, .int .u64 now, .map (some gm), lv].toArray 88 (0, 0)⟩
abbrev livB (g : Nat) (x : Liv) : Blk := ⟨g, .cells (lvC x).toArray 55 (0, 0)⟩
abbrev mapB (gm : Nat) (ms : List (Flw × Value × Nat)) (clock : Nat) : Blk := ⟨gm, mapO flV ms clock⟩
def lvB (L : List (Nat × Liv)) : List Blk := L.map fun p => livB p.1 p.2
structure MapOk (ms : List (Flw × Value × Nat)) (L : List (Nat × Liv)) : Prop where
  nd : (ms.map (·.1)).Nodup
  lk : ∀ x, lkM x ms = (L.find? fun p => decide (p.2.f = x)).map fun p => ptr p.1
  fl : (L.map (·.2.f)).Nodup
def ansD (a : Ans) : DP := fun v T => ∃ ga gm lv Tl L ms clock, v = ptr ga ∧ T = [ansB ga gm lv a.most a.life a.now] ++ ([mapB gm ms clock] ++ (Tl ++ lvB L)) ∧ Buf 1 89 L.length (L.map fun p => ptr p.1) lv Tl ∧ MapOk ms L ∧ L.map (·.2) = a.l
def untF (now life : Int) : Int := IntKind.wrap .u64 (now + life)
theorem c_until (ga gm : Nat) (lv : Value) (most life now : Int) : Ct S0 C 45 [vV (.pointer (some ⟨ga, 0, none⟩))] [tX [ansB ga gm lv most life now]] [] [] [] (vV (.int .u64 (untF now life))) := by
  refine xIn Try.f45 fun E0 w0 hL hC hk => ?_
  have hm : (⟨ga, .cells [.int .i64 most, .int .u64 life, .int .u64 now, .map (some gm), lv].toArray 88 (0, 0)⟩ : Blk) ∈ [ansB ga gm lv most life now] := List.mem_singleton.2 rfl
  refine xR 6 [(4, dLdX 23 0 _ _ 2 _ _ (Value.int IntKind.u64 now) hm rfl), (8, dLdX 23 0 _ _ 1 _ _ (Value.int IntKind.u64 life) hm rfl)] ?_
  exact (xRetC [])
theorem ansD_nil (ga gm : Nat) (most life : Int) : ansD ⟨most, life, 0, []⟩ (ptr ga) [ansB ga gm (.slice none 0 0) most life 0, ⟨gm, .map #[] 0⟩] := by
  refine ⟨ga, gm, .slice none 0 0, [], [], [], 0, rfl, rfl, buf_nil 1 89, ⟨List.nodup_nil, fun x => rfl, List.nodup_nil⟩, rfl⟩
theorem c_noAns (most life : Int) : Ct S0 C 27 [vV (.int .i64 most), vV (.int .u64 life)] [] [] [] [tD (ansD ⟨most, life, 0, []⟩)] (vW 0) := by
  refine xIn Try.f27 fun E0 w0 hL hC hk => ?_
  refine xR 9 [(3, dMk 85)] ?_
  refine xOpen (D := mkD) 0 fun v0 T0 hv => ?_
  obtain ⟨gm, rfl, rfl⟩ := hv
  refine xR 4 [] ?_
  refine xPk (vP 1 0) [(1, tC [vV (.int .i64 most), vV (.int .u64 life), vV (.int .u64 0), vV (.map (some gm)), vV (.slice none 0 0)] 88), (0, tX [⟨gm, .map #[] 0⟩])] (ansD ⟨most, life, 0, []⟩) [4] [] (fun E h => ⟨rfl, ansD_nil _ gm most life⟩) ?_
  exact xRetC [2]
/-- The same, at a known place. -/
def ansG (ga : Nat) (a : Ans) : DP := fun _ T => ∃ gm lv Tl L ms clock, T = [ansB ga gm lv a.most a.life a.now] ++ ([mapB gm ms clock] ++ (Tl ++ lvB L)) ∧ Buf 1 89 L.length (L.map fun p => ptr p.1) lv Tl ∧ MapOk ms L ∧ L.map (·.2) = a.l
theorem ansD_G {a : Ans} {v : Value} {T : List Blk} (h : ansD a v T) : ∃ ga, v = .pointer (some ⟨ga, 0, none⟩) ∧ ∀ v', ansG ga a v' T := by
  obtain ⟨ga, gm, lv, Tl, L, ms, clock, rfl, h⟩ := h
  exact ⟨ga, rfl, fun _ => ⟨gm, lv, Tl, L, ms, clock, h⟩⟩
theorem c_made (r : DP) (ga : Nat) : Ct S0 C 34 [vP 1 0] [tD r, tC [vW 0, vV (.pointer (some ⟨ga, 0, none⟩))] 71] [] [] [] (vV (.bool true)) := by
  refine xIn Try.f34 fun E0 w0 hL hC hk => ?_
  refine xR 17 [] ?_
  exact (xRetC [])
/-- A flow's time is told anew, if it is there. -/
def rnL (x : Flw) (u : Int) : List Liv → List Liv
  | [] => []
  | p :: l => if p.f = x then ⟨p.f, u⟩ :: l else p :: rnL x u l
def hasL (x : Flw) (l : List Liv) : Bool := l.any fun p => decide (p.f = x)
def rnA (a : Ans) (x : Flw) : Ans := { a with l := rnL x (untF a.now a.life) a.l }
theorem rn_miss {x : Flw} {u : Int} : ∀ {l : List Liv}, hasL x l = false → rnL x u l = l
  | [], _ => rfl
  | p :: l, h => by
    simp only [hasL, List.any_cons, Bool.or_eq_false_iff, decide_eq_false_iff_not] at h
    rw [rnL, if_neg h.1, rn_miss (l := l) h.2]
theorem find_none {x : Flw} {L : List (Nat × Liv)} : (L.find? fun p => decide (p.2.f = x)) = none ↔ hasL x (L.map (·.2)) = false := by
  rw [List.find?_eq_none]
  unfold hasL
  simp
theorem find_some {x : Flw} {L : List (Nat × Liv)} {p : Nat × Liv} (h : (L.find? fun p => decide (p.2.f = x)) = some p) : p.2.f = x ∧ ∃ A B, L = A ++ p :: B ∧ ∀ u, rnL x u (L.map (·.2)) = A.map (·.2) ++ ⟨p.2.f, u⟩ :: B.map (·.2) := by
  rw [List.find?_eq_some_iff_append] at h
  obtain ⟨h1, A, B, rfl, h2⟩ := h
  refine ⟨by simpa using h1, A, B, rfl, fun u => ?_⟩
  rw [List.map_append, List.map_cons]
  have : ∀ (A : List Liv) (B : List Liv), (∀ a ∈ A, ¬ a.f = x) → rnL x u (A ++ p.2 :: B) = A ++ ⟨p.2.f, u⟩ :: B := by
    intro A B hA
    induction A with
    | nil => simp only [List.nil_append]; rw [rnL, if_pos (by simpa using h1)]
    | cons y A ih => rw [List.cons_append, rnL, if_neg (hA y (by simp)), ih fun a ha => hA a (by simp [ha])]; rfl
  exact this _ _ fun a ha => by
    obtain ⟨q, hq, rfl⟩ := List.mem_map.1 ha
    simpa using h2 q hq
theorem has_some {x : Flw} {l : List (Nat × Liv)} {p} (h : (l.find? fun p => decide (p.2.f = x)) = some p) : hasL x (l.map (·.2)) = true := by
  cases e : hasL x (l.map (·.2)) with
  | true => rfl
  | false => rw [find_none.2 e] at h; cases h
theorem mapOk_upd {ms : List (Flw × Value × Nat)} {A B : List (Nat × Liv)} {g : Nat} {y y' : Liv} (h : MapOk ms (A ++ (g, y) :: B)) (e : y'.f = y.f) : MapOk ms (A ++ (g, y') :: B) := by
  refine ⟨h.nd, fun x => ?_, ?_⟩
  · rw [h.lk x, List.find?_append, List.find?_append, List.find?_cons, List.find?_cons]
    simp only [e]
    cases List.find? (fun p => decide (p.snd.f = x)) A with
    | some z => rfl
    | none => by_cases q : y.f = x <;> simp [q]
  · have := h.fl
    simpa [e] using this
theorem ansG_mk {ga gm : Nat} {lv : Value} {Tl : List Blk} {L : List (Nat × Liv)} {ms : List (Flw × Value × Nat)} {clock : Nat} {a : Ans} (h1 : Buf 1 89 L.length (L.map fun p => ptr p.1) lv Tl) (h2 : MapOk ms L) (h3 : L.map (·.2) = a.l) (v : Value) (R : List Blk) (hR : R = lvB L ++ []) : ansG ga a v ([ansB ga gm lv a.most a.life a.now] ++ ([mapB gm ms clock] ++ (Tl ++ R))) :=
  ⟨gm, lv, Tl, L, ms, clock, by rw [hR, List.append_nil], h1, h2, h3⟩
theorem c_renew (ga : Nat) (a : Ans) (x : Flw) : Ct S0 C 30 [vV (.pointer (some ⟨ga, 0, none⟩)), flS x] [] [tD (ansG ga a)] [gap] [tD (ansG ga (rnA a x))] (vV (.bool (hasL x a.l))) := by
  refine xIn Try.f30 fun E0 w0 hL hC hk => ?_
  refine xOpen (D := ansG ga a) 0 fun v0 T0 hv => ?_
  obtain ⟨gm, lv, Tl, L, ms, clock, hT, h1, h2, h3⟩ := hv
  have hm : (⟨ga, .cells [.int .i64 a.most, .int .u64 a.life, .int .u64 a.now, .map (some gm), lv].toArray 88 (0, 0)⟩ : Blk) ∈ [ansB ga gm lv a.most a.life a.now] := List.mem_singleton.2 rfl
  cases q1 : L.find? fun p => decide (p.2.f = x) with
  | none =>
    have q2 : lkM x ms = none := by rw [h2.lk, q1]; rfl
    have q3 : hasL x a.l = false := by rw [← h3]; exact find_none.1 q1
    have q4 : rnA a x = a := by unfold rnA; rw [rn_miss q3]
    rw [q3, q4]
    subst hT
    refine xSplit 0 [ansB ga gm lv a.most a.life a.now] ([mapB gm ms clock] ++ (Tl ++ lvB L)) ?_
    refine xSplit 1 [mapB gm ms clock] (Tl ++ lvB L) ?_
    refine xSplit 2 Tl (lvB L) ?_
    refine xR 10 [(5, dLdX 85 0 _ _ 3 _ _ (.map (some gm)) hm rfl), (7, dLk0 85 42 89 kmF 1 [mapB gm ms clock] gm ms clock x (flS x) (.pointer none) (flS_den x) (List.mem_singleton.2 rfl) q2)] ?_
    refine xR 9 [] ?_
    refine xPk (vV (.bool false)) [(0, tX [ansB ga gm lv a.most a.life a.now]), (1, tX [mapB gm ms clock]), (2, tX Tl), (3, tX (lvB L))] (ansG ga a) [] [] (fun E h => ⟨rfl, ansG_mk h1 h2 h3 _ _ rfl⟩) ?_
    exact xRetC [5]
  | some p =>
    obtain ⟨g, y⟩ := p
    have q2 : lkM x ms = some (.pointer (some ⟨g, 0, none⟩)) := by rw [h2.lk, q1]; rfl
    have q3 : hasL x a.l = true := by rw [← h3]; exact has_some q1
    obtain ⟨q5, A, B, rfl, q6⟩ := find_some q1
    have q7 : (rnA a x).l = (A ++ (g, ⟨y.f, untF a.now a.life⟩) :: B).map (·.2) := by
      show rnL x (untF a.now a.life) a.l = _
      rw [← h3, q6, List.map_append]
      rfl
    rw [q3]
    rw [show lvB (A ++ (g, y) :: B) = lvB A ++ livB g y :: lvB B by simp [lvB]] at hT
    subst hT
    refine xSplit 0 [ansB ga gm lv a.most a.life a.now] ([mapB gm ms clock] ++ (Tl ++ (lvB A ++ livB g y :: lvB B))) ?_
    refine xSplit 1 [mapB gm ms clock] (Tl ++ (lvB A ++ livB g y :: lvB B)) ?_
    refine xSplit 2 Tl (lvB A ++ livB g y :: lvB B) ?_
    refine xR 10 [(5, dLdX 85 0 _ _ 3 _ _ (.map (some gm)) hm rfl), (7, dLk1 85 42 89 kmF 1 [mapB gm ms clock] gm ms clock x (flS x) (.pointer none) (.pointer (some ⟨g, 0, none⟩)) (flS_den x) (List.mem_singleton.2 rfl) q2)] ?_
    refine xR 10 [(3, dC (c_until ga gm lv a.most a.life a.now) [0]), (6, dStX 23 3 (lvB A) (lvB B) g 9 (lvC y) 55 (.int .u64 (untF a.now a.life)) (by exact Nat.lt_of_lt_of_le (by decide) (Nat.le_refl 10)))] ?_
    refine xR 6 [] ?_
    refine xPk (vV (.bool false)) [(0, tX [ansB ga gm lv a.most a.life a.now]), (1, tX [mapB gm ms clock]), (2, tX Tl), (3, tX (lvB A ++ ⟨g, .cells ((lvC y).set 9 (.int .u64 (untF a.now a.life))).toArray 55 (0, 0)⟩ :: lvB B))] (ansG ga (rnA a x)) [] [] (fun E h => ⟨rfl, ?_⟩) ?_
    · refine ansG_mk (L := A ++ (g, ⟨y.f, untF a.now a.life⟩) :: B) (a := rnA a x) (by have h := h1; simp only [List.length_append, List.length_cons, List.map_append, List.map_cons] at h ⊢; exact h) (mapOk_upd h2 rfl) q7.symm _ _ ?_
      show _ ++ [] = _ ++ []
      rw [List.append_nil, List.append_nil]
      simp only [lvB, List.map_append, List.map_cons]
      rfl
    exact xRetC [5]
/-- Pointers, one behind the other. -/
def ptEl (g : Nat) (c : List Value) (T : List Blk) : Prop := c = [ptr g] ∧ T = []
theorem els_pt : ∀ gs : List Nat, Els ptEl 1 gs (gs.map ptr) []
  | [] => ⟨rfl, rfl⟩
  | g :: gs => ⟨[ptr g], gs.map ptr, [], [], rfl, rfl, rfl, ⟨rfl, rfl⟩, els_pt gs⟩
theorem pt_els : ∀ {gs : List Nat} {cs : List Value} {T : List Blk}, Els ptEl 1 gs cs T → cs = gs.map ptr ∧ T = []
  | [], _, _, h => h
  | g :: gs, _, _, ⟨c1, c2, T1, T2, e1, h1, e2, ⟨e3, e4⟩, h⟩ => by
    obtain ⟨e5, e6⟩ := pt_els h
    exact ⟨by rw [e1, e3, e5]; rfl, by rw [e2, e4, e6]; rfl⟩
theorem row_buf {gs : List Nat} {v : Value} {T : List Blk} (h : Buf 1 89 gs.length (gs.map ptr) v T) : RowD 1 89 ptEl gs v T := ⟨gs.map ptr, T, [], h, els_pt gs, by simp⟩
theorem buf_row {gs : List Nat} {v : Value} {T : List Blk} (h : RowD 1 89 ptEl gs v T) : Buf 1 89 gs.length (gs.map ptr) v T := by
  obtain ⟨cs, Tb, Te, h1, h2, rfl⟩ := h
  obtain ⟨rfl, rfl⟩ := pt_els h2
  simpa using h1
theorem buf_len {K e n : Nat} {cs : List Value} {v : Value} {T : List Blk} (h : Buf K e n cs v T) : ∃ base cap, v = .slice base n cap := by
  rcases h.2 with ⟨rfl, ⟨a, rfl⟩, _⟩ | ⟨g, cap, Z, rfl, -⟩
  · exact ⟨_, _, rfl⟩
  · exact ⟨_, _, rfl⟩
def boxD (cs : List Value) (t : TypeId) (v : Value) (T : List Blk) : Prop := ∃ g, v = .pointer (some ⟨g, 0, none⟩) ∧ T = [⟨g, .cells cs.toArray t (0, 0)⟩]
def dApp_ptEl (gs : List Nat) (b1 b2 g : Nat) (hle : gs.length < 500000) : Dr S0 C := dApp 86 86 89 1 (.pointer none) ptEl gs g b1 b2 89 [vV (.pointer (some ⟨g, 0, none⟩))] [] hle (fun E _ => ⟨rfl, rfl⟩)
def adA (a : Ans) (x : Flw) : Int × Ans := if (a.l.length : Int) ≥ a.most then (6, a) else (0, { a with l := a.l ++ [⟨x, untF a.now a.life⟩] })
theorem mapOk_add {ms : List (Flw × Value × Nat)} {L : List (Nat × Liv)} (h : MapOk ms L) (g clock : Nat) (y : Liv) (hn : L.find? (fun p => decide (p.2.f = y.f)) = none) : MapOk (ms ++ [(y.f, ptr g, clock)]) (L ++ [(g, y)]) := by
  have hx : ∀ e ∈ ms, e.1 ≠ y.f := by
    intro e he h1
    have h2 : lkM y.f ms = none := by rw [h.lk, hn]; rfl
    have : ∀ (l : List (Flw × Value × Nat)), (∃ e ∈ l, e.1 = y.f) → lkM y.f l ≠ none := by
      intro l
      induction l with
      | nil => rintro ⟨e, he, _⟩; simp at he
      | cons z l ih =>
        rintro ⟨e, he, h3⟩
        unfold lkM
        split
        · simp
        · rename_i hz
          rcases List.mem_cons.1 he with rfl | he
          · exact absurd h3.symm hz
          · exact ih ⟨e, he, h3⟩
    exact this ms ⟨e, he, h1⟩ h2
  refine ⟨?_, fun x => ?_, ?_⟩
  · rw [List.map_append, List.nodup_append]
    refine ⟨h.nd, by simp, ?_⟩
    intro a ha b hb
    simp at hb
    subst hb
    obtain ⟨e, he, rfl⟩ := List.mem_map.1 ha
    exact hx e he
  · have lkapp : ∀ (l : List (Flw × Value × Nat)), lkM x (l ++ [(y.f, ptr g, clock)]) = match lkM x l with | some v => some v | none => if x = y.f then some (ptr g) else none := by
      intro l
      induction l with
      | nil => simp [lkM]
      | cons e l ih =>
        simp only [List.cons_append, lkM]
        split
        · rfl
        · exact ih
    rw [lkapp, h.lk x, List.find?_append]
    cases hq : List.find? (fun p => decide (p.2.f = x)) L with
    | some z => rfl
    | none =>
      by_cases e : y.f = x
      · simp [e]
      · simp [e, Ne.symm e]
  · rw [List.map_append, List.nodup_append]
    refine ⟨h.fl, by simp, ?_⟩
    intro a ha b hb
    simp at hb
    subst hb
    obtain ⟨e, he, rfl⟩ := List.mem_map.1 ha
    rw [List.find?_eq_none] at hn
    simpa using hn e he
theorem c_add (ga : Nat) (a : Ans) (x : Flw) (hx : hasL x a.l = false) (hl : a.l.length < 100000) : Ct S0 C 31 [vV (.pointer (some ⟨ga, 0, none⟩)), flS x] [] [tD (ansG ga a)] [gap] [tD (ansG ga (adA a x).2)] (vV (.int .i64 (adA a x).1)) := by
  refine xIn Try.f31 fun E0 w0 hL hC hk => ?_
  refine xOpen (D := ansG ga a) 0 fun v0 T0 hv => ?_
  obtain ⟨gm, lv, Tl, L, ms, clock, hT, h1, h2, h3⟩ := hv
  obtain ⟨base, cap, rfl⟩ := buf_len h1
  have hm : (⟨ga, .cells [.int .i64 a.most, .int .u64 a.life, .int .u64 a.now, .map (some gm), .slice base L.length cap].toArray 88 (0, 0)⟩ : Blk) ∈ [ansB ga gm (.slice base L.length cap) a.most a.life a.now] := List.mem_singleton.2 rfl
  have hl2 : L.length = a.l.length := by rw [← h3, List.length_map]
  subst hT
  refine xSplit 0 [ansB ga gm (.slice base L.length cap) a.most a.life a.now] ([mapB gm ms clock] ++ (Tl ++ lvB L)) ?_
  refine xSplit 1 [mapB gm ms clock] (Tl ++ lvB L) ?_
  refine xSplit 2 Tl (lvB L) ?_
  by_cases q1 : (L.length : Int) ≥ a.most
  · have q2 : adA a x = (6, a) := by unfold adA; rw [← hl2, if_pos q1]
    rw [q2]
    refine xR 13 [(5, dLdX 86 0 _ _ 4 _ _ (Value.slice base L.length cap) hm rfl), (10, dLdX 3 0 _ _ 0 _ _ (Value.int IntKind.i64 a.most) hm rfl), (11, dT q1)] ?_
    refine xPk (vV (.bool false)) [(0, tX [ansB ga gm (.slice base L.length cap) a.most a.life a.now]), (1, tX [mapB gm ms clock]), (2, tX Tl), (3, tX (lvB L))] (ansG ga a) [] [] (fun E h => ⟨rfl, ansG_mk h1 h2 h3 _ _ rfl⟩) ?_
    exact xRetC [5]
  · have q2 : adA a x = (0, { a with l := a.l ++ [⟨x, untF a.now a.life⟩] }) := by unfold adA; rw [← hl2, if_neg q1]
    rw [q2]
    have q3 : L.find? (fun p => decide (p.2.f = x)) = none := find_none.2 (by rw [h3]; exact hx)
    have q4 : lkM x ms = none := by rw [h2.lk, q3]; rfl
    refine xR 12 [(5, dLdX 86 0 _ _ 4 _ _ (Value.slice base L.length cap) hm rfl), (10, dLdX 3 0 _ _ 0 _ _ (Value.int IntKind.i64 a.most) hm rfl), (11, dF q1), (14, dC (c_until ga gm (Value.slice base L.length cap) a.most a.life a.now) [0])] ?_
    refine xPk (vP 5 0) [(5, tC [vV (.int .u8 x.p), vV (.bool x.s.v), vV (.int .u64 x.s.h), vV (.int .u64 x.s.l), vV (.bool x.d.v), vV (.int .u64 x.d.h), vV (.int .u64 x.d.l), vV (.int .u16 x.fr), vV (.int .u16 x.to), vV (.int .u64 (untF a.now a.life))] 55)] (boxD (lvC ⟨x, untF a.now a.life⟩) 55) [5] [] (fun E h => ⟨rfl, _, rfl, rfl⟩) ?_
    refine xOpen (D := boxD (lvC ⟨x, untF a.now a.life⟩) 55) 6 fun v0 T0 hv => ?_
    obtain ⟨g, rfl, rfl⟩ := hv
    refine xR 2 [(3, dLdX 85 0 _ _ 3 _ _ (.map (some gm)) hm rfl), (6, dMu 85 42 89 kmF 1 [] [] gm ms clock x (flS x) (.pointer (some ⟨g, 0, none⟩)) (flS_den x) q4)] ?_
    refine xR 9 [(4, dLdX 86 0 _ _ 4 _ _ (.slice base L.length cap) hm rfl)] ?_
    refine xPk (vV (.slice base L.length cap)) [(2, tX Tl)] (RowD 1 89 ptEl (L.map (·.1))) [31] [] (fun E h => ⟨rfl, ?_⟩) ?_
    · refine row_buf ?_
      rw [List.length_map, List.map_map]
      show Buf 1 89 _ _ _ (Tl ++ [])
      rw [List.append_nil]
      exact h1
    refine xR 1 [(0, dApp_ptEl (L.map (·.1)) 8 7 g (by rw [List.length_map]; omega))] ?_
    refine xOpen (D := RowD 1 89 ptEl (L.map (·.1) ++ [g])) 9 fun v1 T1 hv => ?_
    have q5 := buf_row hv
    obtain ⟨base1, cap1, rfl⟩ := buf_len q5
    refine xR 3 [(2, dStX 86 0 [] [] ga 4 [.int .i64 a.most, .int .u64 a.life, .int .u64 a.now, .map (some gm), .slice base L.length cap] 88 (.slice base1 (L.map (·.1) ++ [g]).length cap1) (by exact Nat.lt_succ_self 4))] ?_
    refine xR 5 [] ?_
    refine xPk (vV (.bool false)) [(0, tX [ansB ga gm (.slice base1 (L.map (·.1) ++ [g]).length cap1) a.most a.life a.now]), (1, tX [mapB gm (ms ++ [(x, .pointer (some ⟨g, 0, none⟩), clock)]) (clock + 1)]), (9, tX T1), (3, tX (lvB L)), (6, tX [⟨g, .cells (lvC ⟨x, untF a.now a.life⟩).toArray 55 (0, 0)⟩])] (ansG ga { a with l := a.l ++ [⟨x, untF a.now a.life⟩] }) [] [] (fun E h => ⟨rfl, ?_⟩) ?_
    · refine ansG_mk (L := L ++ [(g, ⟨x, untF a.now a.life⟩)]) (a := { a with l := a.l ++ [⟨x, untF a.now a.life⟩] }) ?_ (mapOk_add h2 g clock ⟨x, untF a.now a.life⟩ q3) (by rw [List.map_append, h3]; rfl) _ _ ?_
      · have h := q5
        simp only [List.map_append, List.length_append, List.length_map, List.map_map] at h ⊢
        exact h
      · show lvB L ++ ([livB g _] ++ []) = _
        simp [lvB]
    exact xRetC [10]
end Go.Proofs.Ytlfekknonjlopaa
