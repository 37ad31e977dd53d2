/- The walks of Len and String of strings.Builder; builders beside other memory. -/
import Derived.Test.YtenafinbaanicaaDoorA1
namespace Go.Proofs.YtenafinbaanicaaDoor
open Go.RowKit
set_option maxRecDepth 100000

open Go.Shelf
theorem BA.cell1 {u : World} {k cap : Nat} {ao : Option Addr} {l : List UInt8} (h : BA u k ao cap l) : u.cell? ⟨k, 1, none⟩ = some (.slice ao l.length cap) := h.at_.elim (fun h => cell_av h (by decide)) (fun h => cell_av h (by decide))
theorem freeze_row {u : World} {g n : Nat} {cur : Array Value} {fz : Nat × Nat} (h : u.heap[g]? = some (.cells cur 5 fz)) (hf : fz.2 ≤ n) (hn : n ≠ 0) : ∃ fz', (u.freeze ⟨g, 0, none⟩ n).heap[g]? = some (.cells cur 5 fz') ∧ fz'.2 ≤ n ∧ Grw u (u.freeze ⟨g, 0, none⟩ n) [g] := by
  unfold World.freeze
  rw [if_neg hn]
  refine ⟨(if fz.1 == fz.2 then (0, 0 + n) else (min fz.1 0, max fz.2 (0 + n))), ?_, ?_, ⟨rfl, rfl, rfl, by simp, fun j _ hj => ?_⟩⟩
  · simp only [Array.getElem?_modify, h]
    simp
  · split
    · simp
    · show max fz.2 (0 + n) ≤ n
      omega
  · simp only [Array.getElem?_modify]
    rw [if_neg (fun e => hj (by simpa using e.symm))]

set_option maxRecDepth 100000 in
set_option maxHeartbeats 4000000 in
theorem c_blen {k cap : Nat} {ao : Option Addr} {l : List UInt8} (w : World) (hL : Laid w) (h : BA w k ao cap l) :
    Calls Tryd.prog 84 #[.pointer (some ⟨k, 0, none⟩)] w fun r w' => r = .returned (.int .i64 (l.length : Int)) ∧ Below w.heap.size w w' := by
  go_enter Tryd.func84, Tryd.ntmps84
  have M := Mem.start hL
  refine sq ?_
  refine sR ?_
  refine rV 3 ?_
  refine pE M 6 k 1 (.slice ao l.length cap) (fun w M => M.oldc h.cell1 (by simp)) ?_
  refine rV 2 ?_
  refine nT ?_
  refine wp_ret ?_
  exact b1 M

theorem row_cell {u : World} {g : Nat} {cur : Array Value} {fz : Nat × Nat} {l : List UInt8} (h : u.heap[g]? = some (.cells cur 5 fz)) (ht : cur.toList.take (l.length * 1) = Lib.byteCells l) {j : Nat} {x : UInt8} (hx : l[j]? = some x) : u.cell? ⟨g, j, none⟩ = some (.int .u8 x.toNat) := by
  have h2 : (Lib.byteCells l)[j]? = some (.int .u8 x.toNat) := by simp [Lib.byteCells, hx]
  rw [← ht, List.getElem?_take] at h2
  split at h2
  · unfold World.cell?
    rw [h]
    simpa using h2
  · cases h2
set_option maxRecDepth 100000 in
set_option maxHeartbeats 4000000 in
theorem c_bstr {k cap : Nat} {ao : Option Addr} {l : List UInt8} (w : World) (hL : Laid w) (h : BA w k ao cap l) (hne : ∀ x ∈ k :: rowOf ao, 1 < x) (h0 : l ≠ []) :
    Calls Tryd.prog 72 #[.pointer (some ⟨k, 0, none⟩)] w fun r w' => r = .returned (.string ⟨l.toArray⟩) ∧ ∃ ao' cap', BA w' k ao' cap' l ∧ Grw w w' (k :: rowOf ao) ∧ (rowOf ao' = rowOf ao ∨ ∃ g, rowOf ao' = [g] ∧ w.heap.size ≤ g) := by
  have hl0 : l.length ≠ 0 := by simpa using h0
  obtain ⟨g, cur, fz, rfl, hg, hfz, hnc, hcm, hcs, htake⟩ : ∃ g cur fz, ao = some ⟨g, 0, none⟩ ∧ w.heap[g]? = some (.cells cur 5 fz) ∧ fz.2 ≤ l.length ∧ l.length ≤ cap ∧ cap ≤ maxLen ∧ cur.size = cap * 1 ∧ cur.toList.take (l.length * 1) = Lib.byteCells l := by
    rcases h.own.2 with ⟨_, hz⟩ | ⟨g, c, cur, fz, hv, _, h2, h3, h4⟩
    · exact absurd hz hl0
    · cases hv
      exact ⟨g, cur, fz, rfl, h2, by simpa using h3, h4⟩
  have hgk : g ≠ k := fun e => h.ne (by simp [rowOf, e])
  have M : Mem ⟨w, [g]⟩ [⟨g, .cells cur 5 fz⟩] w := ⟨grown_refl _ _, by simpa using hg, by simp, by simp, hL, fun x e => hne x (List.mem_cons_of_mem _ (by simpa [rowOf] using e))⟩
  go_enter Tryd.func72, Tryd.ntmps72
  refine sq ?_
  refine wp_seq ?_
  refine rgh M [] 11 fun u1 M => ?_
  have qM := M.drop (.cons _ (.slnil))
  refine qV qM 0 3 (.pointer (some ⟨k, 0, none⟩)) ?_
  refine qV qM 1 4 (.pointer (some ⟨k, 0, none⟩)) ?_
  refine qV qM 2 5 (.pointer (some ⟨k, 1, none⟩)) ?_
  refine qC qM 3 6 k 1 (.slice (some ⟨g, 0, none⟩) l.length cap) (fun w M => M.oldc h.cell1 (by simpa using Ne.symm hgk)) ?_
  refine qH qM 4 7 (.pointer (some ⟨g, 0, none⟩)) (fun w _ => (fun w => Eq.trans (b := (do pure (Next.value (← Builtin.unsafeSliceData_ #[26] 134 #[.slice (some ⟨g, 0, none⟩) l.length cap]))).run Tryd.prog w) (by kernel_rfl) (by simp only [Sem.run_bind, Lib.run_unsafeSliceData_row w #[26] 134 ⟨g, 0, none⟩ l.length cap (by omega), Result.andThen_ok, Sem.run_pure])) w) ?_
  refine qV qM 5 8 (.pointer (some ⟨k, 0, none⟩)) ?_
  refine qV qM 6 9 (.pointer (some ⟨k, 0, none⟩)) ?_
  refine qV qM 7 10 (.pointer (some ⟨k, 1, none⟩)) ?_
  refine qC qM 8 11 k 1 (.slice (some ⟨g, 0, none⟩) l.length cap) (fun w M => M.oldc h.cell1 (by simpa using Ne.symm hgk)) ?_
  refine qV qM 9 12 (.int .i64 (l.length : Int)) ?_
  refine qO 10 ?_
  have hg1 : u1.heap[g]? = some (.cells cur 5 fz) := M.get 0 rfl
  have hUS := Lib.run_unsafeString_row (P := Tryd.prog) u1 134 3 9 5 Tryd.underlying134 repExtra.cellsByte g cur.size (by simp [World.shape?, hg1]) l h0 (by omega) (by unfold maxLen at hcm; omega) (fun j x hx => by rw [add_at, Nat.zero_add]; exact row_cell hg1 htake hx)
  obtain ⟨fz1, hf1, hf2, hf3⟩ := freeze_row hg1 hfz (by simpa using h0)
  refine pl_to (want_no rfl) (some 13) rfl (.string ⟨l.toArray⟩) (u1.freeze ⟨g, 0, none⟩ l.length) (show _ = _ from Eq.trans (b := (do pure (Next.value (← Builtin.unsafeString_ #[134, 3] 9 #[.pointer (some ⟨g, 0, none⟩), .int .i64 l.length]))).run Tryd.prog u1) (by kernel_rfl) (by simp only [Sem.run_bind, hUS, Result.andThen_ok, Sem.run_pure])) ?_
  replace M := M.put 0 _ rfl _ hf3 hf1
  generalize u1.freeze ⟨g, 0, none⟩ l.length = u2 at M ⊢
  refine nT ?_
  refine ⟨(M.drop (.cons _ (.slnil))), ?_⟩
  refine qZ ?_
  refine rV 1 ?_
  refine nT ?_
  refine au_then ?_
  refine wp_ret ?_
  refine bodyPost_ret (v := .string ⟨l.toArray⟩) (results_tmp1 Tryd.results72 _ _ _ (by kernel_rfl)) (by kernel_rfl) ⟨rfl, some ⟨g, 0, none⟩, cap, ⟨?_, ⟨by simp [Lib.byteCells_length], .inr ⟨g, cap, cur, fz1, rfl, Nat.zero_le _, M.get 0 rfl, by omega, hnc, hcm, hcs, htake⟩⟩⟩, ?_, .inl rfl⟩
  · have e := M.old.block k h.lt (by simpa using Ne.symm hgk)
    rw [show u2.heap[k]? = w.heap[k]? from e]; exact h.at_
  · exact ⟨M.old.os, M.old.tape, M.old.output, M.old.size, fun j hj hr => M.old.block j hj fun e => hr (List.mem_cons_of_mem _ (by simpa [rowOf] using e))⟩

theorem flatMap_eq {α β : Type} {f g : α → List β} : ∀ (l : List α), (∀ a ∈ l, f a = g a) → l.flatMap f = l.flatMap g
  | [], _ => rfl
  | a :: l, h => by rw [List.flatMap_cons, List.flatMap_cons, h a (List.mem_cons_self ..), flatMap_eq l fun b hb => h b (List.mem_cons_of_mem _ hb)]
/-- A builder among others. -/
structure Bd where
  k : Nat
  l : List UInt8
def owns (V : Nat → Option Addr × Nat) (Bs : List Bd) : List Nat := Bs.flatMap fun b => b.k :: rowOf (V b.k).1
/-- Builders, and blocks beside them, of a call that is under way. -/
structure SN (w : World) (Bs : List Bd) (L : List Blk) (u : World) : Prop where
  bel : Below w.heap.size w u
  at_ : ∀ b ∈ L, u.heap[b.g]? = some b.Z
  ex : ∃ V : Nat → Option Addr × Nat, (∀ b ∈ Bs, BA u b.k (V b.k).1 (V b.k).2 b.l) ∧ (owns V Bs ++ L.map Blk.g).Nodup ∧ ∀ x ∈ owns V Bs ++ L.map Blk.g, w.heap.size ≤ x
theorem owns_lt {u : World} {V : Nat → Option Addr × Nat} {Bs : List Bd} (h : ∀ b ∈ Bs, BA u b.k (V b.k).1 (V b.k).2 b.l) : ∀ x ∈ owns V Bs, x < u.heap.size := fun x hx => by
  obtain ⟨b, hb, hx⟩ := List.mem_flatMap.1 hx
  rcases List.mem_cons.1 hx with rfl | hx
  · exact (h b hb).lt
  · exact (h b hb).row_lt x hx
theorem SN.lt {w u : World} {Bs : List Bd} {L : List Blk} (h : SN w Bs L u) {b : Blk} (hb : b ∈ L) : b.g < u.heap.size := (Array.getElem?_eq_some_iff.1 (h.at_ b hb)).1
theorem SN.mem {w u : World} {Bs : List Bd} {L : List Blk} (h : SN w Bs L u) (hL : Laid w) : Mem ⟨u, L.map Blk.g⟩ L u := by
  obtain ⟨V, h1, h2, h3⟩ := h.ex
  exact ⟨grown_refl _ _, h.at_, fun b hb => .inr (List.mem_map_of_mem hb), (List.nodup_append.1 h2).2.1, below_laid h.bel hL, fun x e => by
    have := h3 x (List.mem_append.2 (.inr e))
    have := hL.lt
    omega⟩
theorem SN.next {w u u' : World} {Bs : List Bd} {L L' : List Blk} (h : SN w Bs L u) (M : Mem ⟨u, L.map Blk.g⟩ L' u') : SN w Bs L' u' := by
  obtain ⟨V, h1, h2, h3⟩ := h.ex
  obtain ⟨n1, n2, n3⟩ := List.nodup_append.1 h2
  have hsz := h.bel.size
  have ho : Grw u u' (L.map Blk.g) := M.old
  have hk : ∀ x ∈ owns V Bs, u'.heap[x]? = u.heap[x]? := fun x hx => ho.block x (owns_lt h1 x hx) fun hm => n3 x hx x hm rfl
  refine ⟨h.bel.trans ⟨ho.os, ho.tape, ho.output, ho.size, fun j hj => ho.block j (by omega) fun hm => ?_⟩, M.at_, V, fun b hb => ?_, ?_, fun x hx => ?_⟩
  · have := h3 j (List.mem_append.2 (.inr hm))
    omega
  · exact (h1 b hb).keep (hk _ (List.mem_flatMap.2 ⟨b, hb, List.mem_cons_self ..⟩)) fun g hg => hk _ (List.mem_flatMap.2 ⟨b, hb, List.mem_cons_of_mem _ hg⟩)
  · refine List.nodup_append.2 ⟨n1, M.nodup, fun x hx y hy e => ?_⟩
    subst e
    obtain ⟨b, hb, rfl⟩ := List.mem_map.1 hy
    rcases M.ge b hb with h4 | h4
    · have h4 : u.heap.size ≤ b.g := h4
      have := owns_lt h1 _ hx
      omega
    · exact n3 _ hx _ h4 rfl
  · rcases List.mem_append.1 hx with hx | hx
    · exact h3 x (List.mem_append.2 (.inl hx))
    · obtain ⟨b, hb, rfl⟩ := List.mem_map.1 hx
      rcases M.ge b hb with h4 | h4
      · have h4 : u.heap.size ≤ b.g := h4
        omega
      · exact h3 _ (List.mem_append.2 (.inr h4))
theorem SN.keep {w u u' : World} {Bs : List Bd} {L : List Blk} (h : SN w Bs L u) (hL : Laid w) (hb : Below u.heap.size u u') : SN w Bs L u' := h.next ((h.mem hL).keep hb)
theorem SN.perm {w u : World} {Bs Bs' : List Bd} {L : List Blk} (h : SN w Bs L u) (hp : Bs.Perm Bs') : SN w Bs' L u := by
  obtain ⟨V, h1, h2, h3⟩ := h.ex
  have hq : (owns V Bs ++ L.map Blk.g).Perm (owns V Bs' ++ L.map Blk.g) := (hp.flatMap_right _).append_right _
  exact ⟨h.bel, h.at_, V, fun b hb => h1 b (hp.mem_iff.2 hb), hq.nodup_iff.1 h2, fun x hx => h3 x (hq.mem_iff.2 hx)⟩
theorem SN.drop {w u : World} {Bs : List Bd} {L L' : List Blk} (h : SN w Bs L u) (hp : L'.Sublist L) : SN w Bs L' u := by
  obtain ⟨V, h1, h2, h3⟩ := h.ex
  have hq : (owns V Bs ++ L'.map Blk.g).Sublist (owns V Bs ++ L.map Blk.g) := (List.Sublist.refl _).append (hp.map _)
  exact ⟨h.bel, fun b hb => h.at_ b (hp.subset hb), V, h1, h2.sublist hq, fun x hx => h3 x (hq.subset hx)⟩
theorem SN.cell {w u : World} {Bs : List Bd} {L : List Blk} (h : SN w Bs L u) {g i : Nat} {v : Value} (hg : g < w.heap.size) (hc : w.cell? ⟨g, i, none⟩ = some v) : u.cell? ⟨g, i, none⟩ = some v := by
  unfold World.cell? at hc ⊢
  simp only at hc ⊢
  rw [h.bel.block g hg]
  exact hc
/-- The first builder is written to. -/
theorem SN.step {w u u' : World} {k : Nat} {l l' : List UInt8} {Bs : List Bd} {L : List Blk} {V : Nat → Option Addr × Nat} (hbel : Below w.heap.size w u) (hat : ∀ b ∈ L, u.heap[b.g]? = some b.Z) (h1 : ∀ b ∈ (⟨k, l⟩ :: Bs : List Bd), BA u b.k (V b.k).1 (V b.k).2 b.l) (h2 : (owns V (⟨k, l⟩ :: Bs) ++ L.map Blk.g).Nodup) (h3 : ∀ x ∈ owns V (⟨k, l⟩ :: Bs) ++ L.map Blk.g, w.heap.size ≤ x)
    {ao : Option Addr} {cap : Nat} (hb : BA u' k ao cap l') (hg : Grw u u' (k :: rowOf (V k).1)) (hao : rowOf ao = rowOf (V k).1 ∨ ∃ g, rowOf ao = [g] ∧ u.heap.size ≤ g) : SN w (⟨k, l'⟩ :: Bs) L u' := by
  have hsz := hbel.size
  have hown : owns V (⟨k, l⟩ :: Bs) = k :: (rowOf (V k).1 ++ owns V Bs) := rfl
  have hmine : ∀ x ∈ k :: rowOf (V k).1, w.heap.size ≤ x := fun x hx => h3 x (List.mem_append.2 (.inl (by
    rw [hown]
    rcases List.mem_cons.1 hx with rfl | hx
    · exact List.mem_cons_self ..
    · exact List.mem_cons_of_mem _ (List.mem_append.2 (.inl hx)))))
  rw [hown, List.cons_append, List.append_assoc] at h2
  have h2' : ((k :: rowOf (V k).1) ++ (owns V Bs ++ L.map Blk.g)).Nodup := h2
  obtain ⟨n1, n2, n3⟩ := List.nodup_append.1 h2'
  have hlt : ∀ x ∈ owns V Bs ++ L.map Blk.g, x < u.heap.size := fun x hx => by
    rcases List.mem_append.1 hx with hx | hx
    · exact owns_lt (fun b hb => h1 b (List.mem_cons_of_mem _ hb)) x hx
    · obtain ⟨b, hb, rfl⟩ := List.mem_map.1 hx
      exact (Array.getElem?_eq_some_iff.1 (hat b hb)).1
  have hkeep : ∀ x ∈ owns V Bs ++ L.map Blk.g, u'.heap[x]? = u.heap[x]? := fun x hx => hg.block x (hlt x hx) fun hm => n3 x hm x hx rfl
  have hV : ∀ b ∈ Bs, (if b.k = k then (ao, cap) else V b.k) = V b.k := fun b hb => if_neg fun e => n3 k (List.mem_cons_self ..) b.k (List.mem_append.2 (.inl (List.mem_flatMap.2 ⟨b, hb, List.mem_cons_self ..⟩))) e.symm
  have hownV : owns (fun j => if j = k then (ao, cap) else V j) Bs = owns V Bs := by
    unfold owns
    refine flatMap_eq Bs fun b hb => ?_
    show b.k :: rowOf (if b.k = k then (ao, cap) else V b.k).1 = _
    rw [hV b hb]
  have hown2 : owns (fun j => if j = k then (ao, cap) else V j) (⟨k, l'⟩ :: Bs) = k :: (rowOf ao ++ owns V Bs) := by
    rw [← hownV]
    show k :: rowOf (if k = k then (ao, cap) else V k).1 ++ _ = _
    rw [if_pos rfl]
    rfl
  have hnew : ∀ x ∈ rowOf ao, (x ∈ rowOf (V k).1 ∨ u.heap.size ≤ x) := fun x hx => by
    rcases hao with h | ⟨g, h, h4⟩
    · rw [h] at hx
      exact .inl hx
    · rw [h] at hx
      rw [List.mem_singleton.1 hx]
      exact .inr h4
  refine ⟨hbel.trans ⟨hg.os, hg.tape, hg.output, hg.size, fun j hj => hg.block j (by omega) fun hm => ?_⟩, fun b hb => ?_, fun j => if j = k then (ao, cap) else V j, fun b hm => ?_, ?_, ?_⟩
  · have := hmine j hm
    omega
  · rw [hkeep _ (List.mem_append.2 (.inr (List.mem_map_of_mem hb)))]
    exact hat b hb
  · rcases List.mem_cons.1 hm with rfl | hb
    · show BA u' k (if k = k then (ao, cap) else V k).1 (if k = k then (ao, cap) else V k).2 l'
      rw [if_pos rfl]
      exact hb
    · show BA u' b.k (if b.k = k then (ao, cap) else V b.k).1 (if b.k = k then (ao, cap) else V b.k).2 b.l
      rw [hV b hb]
      exact (h1 b (List.mem_cons_of_mem _ hb)).keep (hkeep _ (List.mem_append.2 (.inl (List.mem_flatMap.2 ⟨b, hb, List.mem_cons_self ..⟩)))) fun g hg => hkeep _ (List.mem_append.2 (.inl (List.mem_flatMap.2 ⟨b, hb, List.mem_cons_of_mem _ hg⟩)))
  · rw [hown2, List.cons_append, List.append_assoc]
    show ((k :: rowOf ao) ++ (owns V Bs ++ L.map Blk.g)).Nodup
    have hk : k < u.heap.size := (h1 _ (List.mem_cons_self ..)).lt
    refine List.nodup_append.2 ⟨List.nodup_cons.2 ⟨hb.ne, ?_⟩, n2, fun x hx y hy e => ?_⟩
    · cases ao with
      | none => simp [rowOf]
      | some a => simp [rowOf]
    · subst e
      rcases List.mem_cons.1 hx with rfl | hx
      · exact n3 _ (List.mem_cons_self ..) _ hy rfl
      · rcases hnew x hx with h | h
        · exact n3 _ (List.mem_cons_of_mem _ h) _ hy rfl
        · have := hlt x hy
          omega
  · intro x hx
    rw [hown2, List.cons_append, List.append_assoc] at hx
    rcases List.mem_cons.1 hx with rfl | hx
    · exact hmine _ (List.mem_cons_self ..)
    · rcases List.mem_append.1 hx with hx | hx
      · rcases hnew x hx with h | h
        · exact hmine x (List.mem_cons_of_mem _ h)
        · omega
      · refine h3 x ?_
        rw [hown, List.cons_append, List.append_assoc]
        exact List.mem_cons_of_mem _ (List.mem_append.2 (.inr hx))
theorem SN.not1 {w : World} {k : Nat} {l : List UInt8} {Bs : List Bd} {L : List Blk} {V : Nat → Option Addr × Nat} (hL : Laid w) (h3 : ∀ x ∈ owns V (⟨k, l⟩ :: Bs) ++ L.map Blk.g, w.heap.size ≤ x) : ∀ x ∈ k :: rowOf (V k).1, 1 < x := fun x e => by
  have := h3 x (List.mem_append.2 (.inl (List.mem_append.2 (.inl e))))
  have := hL.lt
  omega
theorem SN.wstr {w u : World} {k : Nat} {l : List UInt8} {Bs : List Bd} {L : List Blk} (h : SN w (⟨k, l⟩ :: Bs) L u) (hL : Laid w) (s : ByteArray) (hz : l.length + s.size ≤ 1000000) : Calls Tryd.prog 83 #[.pointer (some ⟨k, 0, none⟩), .string s] u fun r u' => r = .returned (.tuple #[.int .i64 (s.size : Int), .nilIface]) ∧ SN w (⟨k, l ++ s.data.toList⟩ :: Bs) L u' := by
  obtain ⟨V, h1, h2, h3⟩ := h.ex
  refine (c_wstr s u (below_laid h.bel hL) (h1 _ (List.mem_cons_self ..)) (SN.not1 hL h3) hz).mono ?_
  rintro r u' ⟨rfl, ao, cap, h4, h5, h6⟩
  exact ⟨rfl, SN.step h.bel h.at_ h1 h2 h3 h4 h5 h6⟩
theorem SN.wbyte {w u : World} {k : Nat} {l : List UInt8} {Bs : List Bd} {L : List Blk} (h : SN w (⟨k, l⟩ :: Bs) L u) (hL : Laid w) (c : Int) (h0 : 0 ≤ c) (hc : c < 256) (hz : l.length + 1 ≤ 1000000) : Calls Tryd.prog 71 #[.pointer (some ⟨k, 0, none⟩), .int .u8 c] u fun r u' => r = .returned .nilIface ∧ SN w (⟨k, l ++ [UInt8.ofNat c.toNat]⟩ :: Bs) L u' := by
  obtain ⟨V, h1, h2, h3⟩ := h.ex
  refine (c_wbyte c u (below_laid h.bel hL) (h1 _ (List.mem_cons_self ..)) (SN.not1 hL h3) hz h0 hc).mono ?_
  rintro r u' ⟨rfl, ao, cap, h4, h5, h6⟩
  exact ⟨rfl, SN.step h.bel h.at_ h1 h2 h3 h4 h5 h6⟩
theorem SN.str {w u : World} {k : Nat} {l : List UInt8} {Bs : List Bd} {L : List Blk} (h : SN w (⟨k, l⟩ :: Bs) L u) (hL : Laid w) (h0 : l ≠ []) : Calls Tryd.prog 72 #[.pointer (some ⟨k, 0, none⟩)] u fun r u' => r = .returned (.string ⟨l.toArray⟩) ∧ SN w (⟨k, l⟩ :: Bs) L u' := by
  obtain ⟨V, h1, h2, h3⟩ := h.ex
  refine (c_bstr u (below_laid h.bel hL) (h1 _ (List.mem_cons_self ..)) (SN.not1 hL h3) h0).mono ?_
  rintro r u' ⟨rfl, ao, cap, h4, h5, h6⟩
  exact ⟨rfl, SN.step h.bel h.at_ h1 h2 h3 h4 h5 h6⟩
theorem SN.len {w u : World} {k : Nat} {l : List UInt8} {Bs : List Bd} {L : List Blk} (h : SN w (⟨k, l⟩ :: Bs) L u) (hL : Laid w) : Calls Tryd.prog 84 #[.pointer (some ⟨k, 0, none⟩)] u fun r u' => r = .returned (.int .i64 (l.length : Int)) ∧ SN w (⟨k, l⟩ :: Bs) L u' := by
  obtain ⟨V, h1, h2, h3⟩ := h.ex
  refine (c_blen u (below_laid h.bel hL) (h1 _ (List.mem_cons_self ..))).mono ?_
  rintro r u' ⟨rfl, h4⟩
  exact ⟨rfl, h.keep hL h4⟩
/-- Two new builders. -/
theorem SN.start2 {w u : World} {k1 k2 : Nat} {L : List Blk} (M : Mem ⟨w, []⟩ (⟨k1, .cells (av 2 bF0) 109⟩ :: ⟨k2, .cells (av 2 bF0) 109⟩ :: L) u) : SN w [⟨k1, []⟩, ⟨k2, []⟩] L u := by
  have hba : ∀ k, u.heap[k]? = some (.cells (av 2 bF0) 109) → BA u k none 0 [] := fun k h => ⟨.inl h, by simp [Lib.byteCells], .inl ⟨rfl, rfl⟩⟩
  refine ⟨below_grown M.old, fun b hb => M.at_ b (List.mem_cons_of_mem _ (List.mem_cons_of_mem _ hb)), fun _ => (none, 0), fun b hb => ?_, M.nodup, fun x hx => ?_⟩
  · rcases List.mem_cons.1 hb with rfl | hb
    · exact hba _ (M.get 0 rfl)
    · rw [List.mem_singleton.1 hb]
      exact hba _ (M.get 1 rfl)
  · have hx2 : x ∈ ((⟨k1, .cells (av 2 bF0) 109⟩ :: ⟨k2, .cells (av 2 bF0) 109⟩ :: L : List Blk).map Blk.g) := hx
    obtain ⟨b, hb, rfl⟩ := List.mem_map.1 hx2
    exact (M.ge b hb).elim id fun h => by cases h

end Go.Proofs.YtenafinbaanicaaDoor
