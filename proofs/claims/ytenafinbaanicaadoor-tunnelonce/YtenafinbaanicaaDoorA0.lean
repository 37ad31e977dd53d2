/- Several strings.Builders beside one another and beside other memory. -/
import Derived.Test.YtenafinbaanicaaDoorC9
import Derived.Lib.FrozenHead2
namespace Go.Proofs.YtenafinbaanicaaDoor
open Go.RowKit
set_option maxRecDepth 100000

open Go.Shelf
/-- A builder's cells. -/
def bF (p v : Value) : Nat → Value := fun i => if i = 0 then p else v
theorem put_bF (p v v' : Value) (j : Nat) (hj : j < 2) : (if j = 1 then v' else bF p v j) = bF p v' j := by
  unfold bF
  by_cases h : j = 1
  · subst h
    rfl
  · rw [if_neg h]
    have : j = 0 := by omega
    subst this
    rfl
theorem av_bF (p v : Value) : av 2 (bF p v) = #[p, v] := rfl
def selfp (k : Nat) : Value := .pointer (some ⟨k, 0, none⟩)
/-- A builder: its block, where its bytes lie, the bytes. -/
structure BA (u : World) (k : Nat) (ao : Option Addr) (cap : Nat) (l : List UInt8) : Prop where
  at_ : u.heap[k]? = some (.cells (av 2 (bF (.pointer none) (.slice ao l.length cap))) 109) ∨ u.heap[k]? = some (.cells (av 2 (bF (selfp k) (.slice ao l.length cap))) 109)
  own : u.ownsRowF 0 5 1 (.slice ao l.length cap) l.length (Lib.byteCells l)
def rowOf (ao : Option Addr) : List Nat := (ao.map (·.block)).toList
theorem own_row (ao : Option Addr) (n cap g : Nat) : (Value.slice ao n cap).ownBlock = some g ↔ g ∈ rowOf ao := by
  cases ao with
  | none => simp [Value.ownBlock, rowOf]
  | some a => simp [Value.ownBlock, rowOf, eq_comm]
/-- What a row of bytes is hangs on its block alone. -/
theorem ownF_keep {u u' : World} {ao : Option Addr} {n cap : Nat} {xs : List Value} (h : u.ownsRowF 0 5 1 (.slice ao n cap) n xs) (hk : ∀ g ∈ rowOf ao, u'.heap[g]? = u.heap[g]?) : u'.ownsRowF 0 5 1 (.slice ao n cap) n xs := by
  refine ⟨h.1, ?_⟩
  rcases h.2 with h | ⟨g, c, cur, fz, hv, h2, h3, h4⟩
  · exact .inl h
  · refine .inr ⟨g, c, cur, fz, hv, h2, ?_, h4⟩
    rw [hk g ((own_row ao n cap g).1 (by rw [hv]; rfl))]
    exact h3
theorem BA.keep {u u' : World} {k cap : Nat} {ao : Option Addr} {l : List UInt8} (h : BA u k ao cap l) (h0 : u'.heap[k]? = u.heap[k]?) (hk : ∀ g ∈ rowOf ao, u'.heap[g]? = u.heap[g]?) : BA u' k ao cap l :=
  ⟨by rw [h0]; exact h.at_, ownF_keep h.own hk⟩
theorem BA.lt {u : World} {k cap : Nat} {ao : Option Addr} {l : List UInt8} (h : BA u k ao cap l) : k < u.heap.size := h.at_.elim (fun h => (Array.getElem?_eq_some_iff.1 h).1) (fun h => (Array.getElem?_eq_some_iff.1 h).1)
theorem BA.row_lt {u : World} {k cap : Nat} {ao : Option Addr} {l : List UInt8} (h : BA u k ao cap l) : ∀ g ∈ rowOf ao, g < u.heap.size := fun g hg => (h.own.lt g ((own_row ao _ cap g).2 hg)).2
theorem BA.ne {u : World} {k cap : Nat} {ao : Option Addr} {l : List UInt8} (h : BA u k ao cap l) : k ∉ rowOf ao := fun hk => by
  have h1 := (own_row ao l.length cap k).2 hk
  rcases h.at_ with h2 | h2 <;> exact Lib.ownBlock_neF h.own h2 (by decide) h1

/-- Bytes of a text are added behind: in the same row, or in a new one. -/
theorem app_str {w : World} {ao : Option Addr} {n cap : Nat} {xs : List Value} (h : w.ownsRowF 0 5 1 (.slice ao n cap) n xs) (s : ByteArray) (hb : n + s.size ≤ 1000000) (ty : TypeId) :
    ∃ ao' cap' w', (Builtin.append_ #[26, 9] ty #[.slice ao n cap, .string s]).run Tryd.prog w = .ok (.slice ao' (n + s.size) cap') w' ∧ w'.ownsRowF 0 5 1 (.slice ao' (n + s.size) cap') (n + s.size) (xs ++ Lib.strCells s) ∧ Grw w w' (rowOf ao) ∧ (rowOf ao' = rowOf ao ∨ ∃ g, rowOf ao' = [g] ∧ w.heap.size ≤ g) := by
  obtain ⟨i0, hi, hz0, hz1, hz2⟩ := info_parts repExtra.infoByte
  have hm : n + s.size ≤ maxLen := by unfold maxLen; omega
  obtain ⟨v', w', hr, h2, h3, h4⟩ := Lib.run_append_own_stringF (P := Tryd.prog) w 0 26 9 ty 5 i0 Tryd.underlying26 Tryd.underlying9 hi hz0 hz1 hz2 _ n xs h s hm (by omega) (Nat.zero_le _)
  obtain ⟨ao', cap', rfl⟩ : ∃ ao' cap', v' = .slice ao' (n + s.size) cap' := by
    rcases h2.2 with ⟨hv, hn⟩ | ⟨g, c, cur, fz, hv, _⟩
    · exact ⟨none, 0, by rw [hv, hn]⟩
    · exact ⟨_, _, hv⟩
  refine ⟨ao', cap', w', hr, h2, ⟨h3.os, h3.tape, h3.output, h3.size, fun k hk hkr => h3.block k hk fun e => hkr ((own_row ao n cap k).1 e.symm)⟩, ?_⟩
  rcases h.2 with ⟨hv, hn⟩ | ⟨g, c, cur, fz, hv, _, hg, hfz, hnc, hcm, hcs, htake⟩
  · obtain ⟨v2, w2, hr2, h5, _⟩ := Lib.run_append_own_stringF (P := Tryd.prog) w w.heap.size 26 9 ty 5 i0 Tryd.underlying26 Tryd.underlying9 hi hz0 hz1 hz2 _ n xs ⟨h.1, .inl ⟨hv, hn⟩⟩ s hm (by omega) (Nat.le_refl _)
    rw [hr] at hr2
    cases hr2
    cases hao : ao' with
    | none =>
      left
      cases hv
      rfl
    | some x =>
      right
      refine ⟨x.block, rfl, ?_⟩
      rw [hao] at h5
      exact (h5.lt x.block rfl).1
  · cases hv
    have hxl : xs.length = n := by simpa using h.1
    have hcs' : cur.size = cap := by simpa using hcs
    by_cases hroom : n + s.size ≤ cap
    · have hr2 := Lib.run_append_room_stringF (P := Tryd.prog) w 26 9 ty 5 i0 Tryd.underlying26 Tryd.underlying9 hi hz1 g n cap cur fz hg (by simpa using hfz) s hroom (by omega)
      rw [hr] at hr2
      cases hr2
      exact .inl rfl
    · have hr2 := Lib.run_append_grow_string (P := Tryd.prog) w 26 9 ty 5 i0 (.int .u8 0) Tryd.underlying26 Tryd.underlying9 hi hz0 ⟨g, 0, none⟩ n cap xs (by rw [hz1]; simpa using hxl) (h.cells (g := g) rfl) s (by omega) (by omega) (by rw [hz2]; exact growslice_fits (by omega) (by omega))
      rw [hr] at hr2
      cases hr2
      exact .inr ⟨_, rfl, Nat.le_refl _⟩
/-- One byte is added behind. -/
theorem app_byte {w : World} {ao : Option Addr} {n cap : Nat} {xs : List Value} (h : w.ownsRowF 0 5 1 (.slice ao n cap) n xs) (gx : Nat) (c : Int) (hc : w.cell? ⟨gx, 0, none⟩ = some (.int .u8 c)) (hb : n + 1 ≤ 1000000) (ty : TypeId) :
    ∃ ao' cap' w', (Builtin.append_ #[26, 26] ty #[.slice ao n cap, .slice (some ⟨gx, 0, none⟩) 1 1]).run Tryd.prog w = .ok (.slice ao' (n + 1) cap') w' ∧ w'.ownsRowF 0 5 1 (.slice ao' (n + 1) cap') (n + 1) (xs ++ [.int .u8 c]) ∧ Grw w w' (rowOf ao) ∧ (rowOf ao' = rowOf ao ∨ ∃ g, rowOf ao' = [g] ∧ w.heap.size ≤ g) := by
  obtain ⟨i0, hi, hz0, hz1, hz2⟩ := info_parts repExtra.infoByte
  have hm : n + 1 ≤ maxLen := by unfold maxLen; omega
  have hnews : ∀ j u, [Value.int .u8 c][j]? = some u → w.cell? ((⟨gx, 0, none⟩ : Addr).add j) = some u := fun j u hj => by
    match j, hj with
    | 0, hj => simp at hj; subst hj; simpa [Addr.add] using hc
  have h1 : ∀ u ∈ [Value.int .u8 c], u.oneCell' = true := fun u hu => by simp at hu; subst hu; rfl
  obtain ⟨v', w', hr, h2, h3, h4⟩ := run_append_ownF (P := Tryd.prog) w 0 26 ty 5 i0 (.int .u8 0) 1 1 Tryd.underlying26 hi hz0 hz1 hz2 rfl (by decide) _ n xs h ⟨gx, 0, none⟩ 1 1 [.int .u8 c] rfl hnews h1 hm (by omega) (Nat.zero_le _)
  obtain ⟨ao', cap', rfl⟩ : ∃ ao' cap', v' = .slice ao' (n + 1) cap' := by
    rcases h2.2 with ⟨hv, hn⟩ | ⟨g, c, cur, fz, hv, _⟩
    · omega
    · exact ⟨_, _, hv⟩
  refine ⟨ao', cap', w', hr, h2, ⟨h3.os, h3.tape, h3.output, h3.size, fun k hk hkr => h3.block k hk fun e => hkr ((own_row ao n cap k).1 e.symm)⟩, ?_⟩
  rcases h.2 with ⟨hv, hn⟩ | ⟨g, c2, cur, fz, hv, _, hg, hfz, hnc, hcm, hcs, htake⟩
  · obtain ⟨v2, w2, hr2, h5, _⟩ := run_append_ownF (P := Tryd.prog) w w.heap.size 26 ty 5 i0 (.int .u8 0) 1 1 Tryd.underlying26 hi hz0 hz1 hz2 rfl (by decide) _ n xs ⟨h.1, .inl ⟨hv, hn⟩⟩ ⟨gx, 0, none⟩ 1 1 [.int .u8 c] rfl hnews h1 hm (by omega) (Nat.le_refl _)
    rw [hr] at hr2
    cases hr2
    cases hao : ao' with
    | none =>
      left
      cases hv
      rfl
    | some x =>
      right
      refine ⟨x.block, rfl, ?_⟩
      rw [hao] at h5
      exact (h5.lt x.block rfl).1
  · cases hv
    have hxl : xs.length = n := by simpa using h.1
    have hcs' : cur.size = cap := by simpa using hcs
    by_cases hroom : n + 1 ≤ cap
    · have hr2 := run_append_roomF (P := Tryd.prog) w 26 ty 5 i0 Tryd.underlying26 hi g n cap cur fz hg (by rw [hz1]; simpa using hfz) ⟨gx, 0, none⟩ 1 1 [.int .u8 c] (by rw [hz1]; rfl) hnews h1 hroom (by rw [hz1]; simp; omega)
      rw [hr] at hr2
      cases hr2
      exact .inl rfl
    · have hr2 := run_append_grow (P := Tryd.prog) w 26 ty 5 i0 (.int .u8 0) Tryd.underlying26 hi hz0 ⟨g, 0, none⟩ n cap xs (by rw [hz1]; simpa using hxl) (h.cells (g := g) rfl) ⟨gx, 0, none⟩ 1 1 [.int .u8 c] (by rw [hz1]; rfl) hnews (by omega) (by omega) (by rw [hz2]; exact growslice_fits (by omega) (by omega))
      rw [hr] at hr2
      cases hr2
      exact .inr ⟨_, rfl, Nat.le_refl _⟩

theorem c_chk {u : World} {k cap : Nat} {ao : Option Addr} {l : List UInt8} (h : BA u k ao cap l) : Calls Tryd.prog 85 #[.pointer (some ⟨k, 0, none⟩)] u fun r u' => r = .returned (.tuple #[]) ∧ u'.heap[k]? = some (.cells (av 2 (bF (selfp k) (.slice ao l.length cap))) 109) ∧ Grw u u' [k] := by
  rcases h.at_ with h1 | h1
  · refine (Any.Builder_copyCheck_fresh (P := Tryd.prog) (ρ := repRen) { lays167 with } repExtra.toX72 k u (cell_av h1 (by decide)) (by simp [World.shape?, h1, av_size, repRen]) (free_av h1 0)).mono ?_
    rintro r u' ⟨rfl, rfl⟩
    refine ⟨rfl, ?_, grown_setCell _ _ _ _⟩
    have h2 := h1
    rw [av_bF] at h2
    rw [av_bF]
    simp [World.setCell, Array.getElem?_modify, h2, selfp]
  · refine (Any.Builder_copyCheck_used (P := Tryd.prog) (ρ := repRen) { lays167 with } repExtra.toX72 k u (cell_av h1 (by decide))).mono ?_
    rintro r u' ⟨rfl, rfl⟩
    exact ⟨rfl, h1, grown_refl _ _⟩


end Go.Proofs.YtenafinbaanicaaDoor
