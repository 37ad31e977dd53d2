/- Memory that is only read. -/
import Derived.Test.YtlfekknonjlopaaXS
import Derived.LoopN
namespace Go.Proofs.Ytlfekknonjlopaa
open Go.RowKit
set_option linter.unusedVariables false
set_option linter.unusedSimpArgs false

theorem cell_atR {W : World} {g T : Nat} {fr : Nat × Nat} {cs : Array Value} (h : W.heap[g]? = some (.cells cs T fr)) (i : Nat) : W.cell? ⟨g, i, none⟩ = cs[i]? := by
  unfold World.cell?
  rw [h]
  simp
/-- n elements of K cells lie there. -/
def SlO (T : List Blk) (K n : Nat) (F : Nat → Nat → Value) (base : Option Addr) (g o : Nat) : Prop :=
  0 < n → base = some ⟨g, o, none⟩ ∧ ∃ (Z : Array Value) (e : TypeId) (fr : Nat × Nat), (⟨g, .cells Z e fr⟩ : Blk) ∈ T ∧ ∀ i j, i < n → j < K → Z[o + i * K + j]? = some (F i j)
/-- A slice of them. -/
def Sl (T : List Blk) (K n : Nat) (F : Nat → Nat → Value) (v : Value) : Prop := ∃ base cap g o, v = .slice base n cap ∧ SlO T K n F base g o
theorem SlO.sub {T T' : List Blk} {K n : Nat} {F : Nat → Nat → Value} {base : Option Addr} {g o : Nat} (h : SlO T K n F base g o) (hs : ∀ b ∈ T, b ∈ T') : SlO T' K n F base g o := fun h0 => by
  obtain ⟨h1, Z, e, fr, h2, h3⟩ := h h0
  exact ⟨h1, Z, e, fr, hs _ h2, h3⟩
theorem Sl.sub {T T' : List Blk} {K n : Nat} {F : Nat → Nat → Value} {v : Value} (h : Sl T K n F v) (hs : ∀ b ∈ T, b ∈ T') : Sl T' K n F v := by
  obtain ⟨base, cap, g, o, h1, h2⟩ := h
  exact ⟨base, cap, g, o, h1, h2.sub hs⟩
theorem Sl.congr {T : List Blk} {K n : Nat} {F G : Nat → Nat → Value} {v : Value} (h : Sl T K n F v) (hs : ∀ i j, i < n → j < K → F i j = G i j) : Sl T K n G v := by
  obtain ⟨base, cap, g, o, h1, h2⟩ := h
  refine ⟨base, cap, g, o, h1, fun h0 => ?_⟩
  obtain ⟨h3, Z, e, fr, h4, h5⟩ := h2 h0
  exact ⟨h3, Z, e, fr, h4, fun i j hi hj => by rw [h5 i j hi hj, hs i j hi hj]⟩
/-- A row that grew, as one that is read. -/
theorem RowD.sl {α : Type} {K : Nat} {e : TypeId} {el : α → List Value → List Blk → Prop} {l : List α} {v : Value} {T : List Blk} (h : RowD K e el l v T) : ∃ F : Nat → Nat → Value, Sl T K l.length F v ∧ ∀ i x, l[i]? = some x → ∃ cs Te, el x cs Te ∧ cs.length = K ∧ (∀ j y, cs[j]? = some y → F i j = y) ∧ ∀ b ∈ Te, b ∈ T := by
  obtain ⟨cs, Tb, Te, hB, hE, rfl⟩ := h
  refine ⟨fun i j => cs.getD (i * K + j) undef, ?_, ?_⟩
  · have hl := hB.1
    rcases hB.2 with ⟨h0, ⟨a, rfl⟩, rfl⟩ | ⟨g, cap, Z, rfl, hc, hZ, hZt, rfl⟩
    · exact ⟨a, 0, 0, 0, by rw [h0], fun h => by omega⟩
    · refine ⟨some ⟨g, 0, none⟩, cap, g, 0, rfl, fun _ => ⟨rfl, Z.toArray, e, (0, 0), by simp, fun i j hi hj => ?_⟩⟩
      have h1 : i * K + j < l.length * K := by
        have : (i + 1) * K ≤ l.length * K := Nat.mul_le_mul_right _ hi
        rw [Nat.succ_mul] at this
        omega
      have h2 : cs[i * K + j]? = Z[i * K + j]? := by rw [← hZt, List.getElem?_take, if_pos h1]
      have h3 : i * K + j < cs.length := by omega
      rw [Nat.zero_add, List.getElem?_toArray, ← h2, List.getElem?_eq_getElem h3]
      simp [List.getD, List.getElem?_eq_getElem h3]
  · have key : ∀ (l : List α) (cs : List Value) (Te : List Blk), Els el K l cs Te → ∀ i x, l[i]? = some x → ∃ c Tx, el x c Tx ∧ c.length = K ∧ (∀ j y, c[j]? = some y → cs.getD (i * K + j) undef = y) ∧ ∀ b ∈ Tx, b ∈ Te := by
      intro l
      induction l with
      | nil => intro cs Te _ i x h; simp at h
      | cons a l ih =>
        intro cs Te h i x hx
        obtain ⟨c1, cs', T1, Te', rfl, hl1, rfl, he, hE'⟩ := h
        cases i with
        | zero =>
          simp at hx
          subst hx
          refine ⟨c1, T1, he, hl1, fun j y hj => ?_, fun b hb => List.mem_append_left _ hb⟩
          have hj2 := (List.getElem?_eq_some_iff.1 hj).1
          rw [Nat.zero_mul, Nat.zero_add, List.getD_eq_getElem?_getD, List.getElem?_append_left hj2, hj]
          rfl
        | succ i =>
          obtain ⟨c, Tx, g1, g2, g3, g4⟩ := ih cs' Te' hE' i x (by simpa using hx)
          refine ⟨c, Tx, g1, g2, fun j y hj => ?_, fun b hb => List.mem_append_right _ (g4 b hb)⟩
          rw [← g3 j y hj, List.getD_eq_getElem?_getD, List.getD_eq_getElem?_getD, List.getElem?_append_right (by rw [hl1, Nat.succ_mul]; omega)]
          congr 2
          rw [hl1, Nat.succ_mul]
          omega
    intro i x hx
    obtain ⟨c, Tx, g1, g2, g3, g4⟩ := key l cs Te hE i x hx
    exact ⟨c, Tx, g1, g2, g3, fun b hb => List.mem_append_right _ (g4 b hb)⟩
/-- A round of a loop of few rounds. -/
def frU (b : Code) (I : Act → World → Prop) : Fr := ⟨3, b, 0, [], [], I⟩
def hdI (K : List Fr) : Act → World → Prop := match K with
  | f :: _ => f.I
  | [] => fun _ _ => True
def hdC (K : List Fr) : Code := match K with
  | f :: _ => f.c
  | [] => .skip
def hd3 (K : List Fr) : Bool := match K with
  | f :: _ => Nat.beq f.k 3
  | [] => false
theorem xUn {P : Program} {S : Seat P} {c : Ctx} {E0 : Nat → Ent} {n : Nat} {B : Exit → Act → World → Prop} {K : List Fr} {s : St} (m : Nat) (k : OK S c E0 n B (frC (lpB K) :: frU (lpB K) (Code.rounds P (lpB K) (post P B (lpK K)) m) :: lpK K) s) (hk : lpY K = true := by kernel_rfl) : OK S c E0 n B K s := by
  unfold lpY at hk
  split at hk
  · rename_i f kk
    split at hk
    · rename_i hf
      split at hk
      · rename_i b hc
        obtain ⟨fk, fc, fi, fa, fr, fI⟩ := f
        simp only at hf hc
        subst hf
        subst hc
        refine ⟨fun E a w hn hE H => ?_⟩
        exact wp_loop_rounds (m + 1) (k.out E a w hn hE H)
      · cases hk
    · cases hk
  · cases hk
theorem xUm {P : Program} {S : Seat P} {c : Ctx} {E0 : Nat → Ent} {n : Nat} {B : Exit → Act → World → Prop} {K : List Fr} {s : St} (m : Nat) (k : OK S c E0 n B (frC (hdC K) :: frU (hdC K) (Code.rounds P (hdC K) (post P B (lpK K)) m) :: lpK K) s) (hI : hdI K = Code.rounds P (hdC K) (post P B (lpK K)) (m + 1) := by kernel_rfl) (h3 : hd3 K = true := by kernel_rfl) : OK S c E0 n B K s := by
  unfold hd3 at h3
  split at h3
  · rename_i f kk
    obtain ⟨fk, fc, fi, fa, fr, fI⟩ := f
    have h3 := nbeq.1 h3
    simp only at h3
    subst h3
    refine ⟨fun E a w hn hE H => ?_⟩
    have h := k.out E a w hn hE H
    show fI a w
    have hI : fI = _ := hI
    rw [hI]
    exact h
  · cases h3
section
variable {P : Program} {S : Seat P} {C : World → Prop}
/-- An operation that looks at memory b only. -/
def dRdX (q : VO) (b : Nat) (T0 : List Blk) (v : SV) (h : ∀ E w, S.laid w → C w → (∀ x ∈ T0, w.heap[x.g]? = some x.Z) → (q.sem E).run P w = .ok (.value (v.den E)) w) : Dr S C :=
  dSp fun _ => ⟨q, [(b, tX T0)], [], [], [], v, fun _ _ => fun E w hL hC T hok => by
    have hd : denP E ([(b, tX T0)] ++ []) = T0 := by
      show T0 ++ [] = T0
      rw [List.append_nil]
    rw [hd] at T
    rw [h E w hL (hC w (grw_refl _ _)) T.at_]
    refine ⟨E, fun _ _ => rfl, fun p hp => hok p (by simpa [ix] using hp), rfl, ?_⟩
    rw [hd]
    show OkT w w T0 (denP E ([(b, tX T0)] ++ []))
    rw [hd]
    exact OkT.refl T⟩
/-- How long a slice is. -/
def dLenV (t ty : TypeId) (base : Option Addr) (n cap : Nat) (hu : P.underlying t = some (.slice (P.elem t)) := by kernel_rfl) : Dr S C :=
  dRd (oBi .len [t] ty [false] [vV (.slice base n cap)]) (vV (.int .i64 (n : Int))) fun E w _ _ => by
    show (do pure (Next.value (← Builtin.len_ #[t] ty #[.slice base n cap])) : Sem Next).run P w = _
    simp only [Sem.run_bind, run_len_slice w t ty base n cap hu, Result.andThen_ok, Sem.run_pure]
    rfl
/-- An element's place, by what is told of its base. -/
def dIxR (t : TypeId) {T : List Blk} {K n : Nat} {F : Nat → Nat → Value} {base : Option Addr} {g o : Nat} (H : SlO T K n F base g o) (cap i : Nat) (h : i < n) (hu : P.underlying t = some (.slice (P.elem t)) := by kernel_rfl) (h0 : (P.info? (P.elem t)).map (·.size) = some K := by kernel_rfl) : Dr S C :=
  dRd (oOp 4 t 0 [] [vV (.slice base n cap), vV (.int .i64 (i : Int))]) (vV (.pointer (some ⟨g, o + i * K, none⟩))) fun _ _ _ _ => by
    obtain ⟨hb, -⟩ := H (by omega)
    subst hb
    exact run_ixsl (a := none) hu (by cases hh : P.info? (P.elem t) with | none => rw [hh] at h0; cases h0 | some i => rfl) h (by unfold sizeT; rw [h0]; rfl)
/-- What lies there: an element's cells, -/
def dLdR (t : TypeId) (b : Nat) {T : List Blk} {K n : Nat} {F : Nat → Nat → Value} {base : Option Addr} {g o : Nat} (H : SlO T K n F base g o) (i : Nat) (h : i < n) (hs : Nat.beq K (sizeT P t) = true := by kernel_rfl) (ha : aggT P t = some true := by kernel_rfl) : Dr S C :=
  dRdX (oOp 2 t 0 [] [vV (.pointer (some ⟨g, o + i * K, none⟩))]) b T (vG (((List.range K).map (F i)).map vV)) fun E w _ _ hT => by
    obtain ⟨-, Z, e, fr, hm, hz⟩ := H (by omega)
    have hh := hT _ hm
    rw [vG_map]
    exact load_row (cs := (List.range K).map (F i)) ha (by rw [List.length_map, List.length_range]; exact nbeq.1 hs) (info_some ha) fun j x hx => by
      obtain ⟨hj, hx⟩ := List.getElem?_eq_some_iff.1 hx
      simp only [List.length_map, List.length_range] at hj
      simp only [List.getElem_map, List.getElem_range] at hx
      subst hx
      rw [cell_atR hh]
      exact hz i j h hj
/-- or one of them. -/
def dLdR1 (t : TypeId) (b : Nat) {T : List Blk} {K n : Nat} {F : Nat → Nat → Value} {base : Option Addr} {g o : Nat} (H : SlO T K n F base g o) (i j off : Nat) (h : i < n) (hj : Nat.blt j K = true := by kernel_rfl) (ho : off = o + i * K + j := by rfl) (ha : aggT P t = some false := by kernel_rfl) : Dr S C :=
  dRdX (oOp 2 t 0 [] [vV (.pointer (some ⟨g, off, none⟩))]) b T (vV (F i j)) fun E w _ _ hT => by
    obtain ⟨-, Z, e, fr, hm, hz⟩ := H (by omega)
    have hh := hT _ hm
    subst ho
    exact load_one ha (by
      rw [cell_atR hh]
      exact hz i j h (by simpa [Nat.blt_eq] using hj))
end
end Go.Proofs.Ytlfekknonjlopaa
