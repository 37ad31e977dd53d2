/- Slices that grow, of elements of several cells, nil or not. -/
import Derived.Test.YtenafinbaanicaaDoorW0
import Derived.Deep.AppendSrc
namespace Go.Proofs.YtenafinbaanicaaDoor
open Go.RowKit
set_option maxRecDepth 100000

def InfoK (P : Program) (e : TypeId) (K : Nat) (zv : Value) : Prop := ∃ i, P.info? e = some i ∧ i.zero = some zv ∧ i.size = K ∧ i.bytes ≤ 64
theorem infoK {P : Program} {e : TypeId} {K : Nat} {zv : Value} {b : Nat} (h1 : (P.info? e).map (·.zero) = some (some zv)) (h2 : (P.info? e).map (·.size) = some K) (h3 : (P.info? e).map (·.bytes) = some b) (hb : b ≤ 64) : InfoK P e K zv := by
  cases h : P.info? e with
  | none => rw [h] at h2; cases h2
  | some i =>
    rw [h] at h1 h2 h3
    simp only [Option.map_some, Option.some.injEq] at h1 h2 h3
    exact ⟨i, h, h1, h2, by omega⟩
/-- A slice of one's own: nil, or in a block of its own; l: its cells, K for each of its n elements. -/
structure SlV (K : Nat) (l : List Value) (n : Nat) (v : Value) (T : List Blk) : Prop where
  len : l.length = n * K
  ex : (n = 0 ∧ v = .slice none 0 0 ∧ T = []) ∨ ∃ g cap Z, 0 < n ∧ v = .slice (some ⟨g, 0, none⟩) n cap ∧ n ≤ cap ∧ SB Z (cap * K) l ∧ T = [⟨g, Z⟩]
theorem slv_nil (K : Nat) : SlV K [] 0 (.slice none 0 0) [] := ⟨by simp, .inl ⟨rfl, rfl, rfl⟩⟩
theorem Mem.fetch {c : Ctx} {L pre suf : List Blk} {b : Blk} {W : World} (M : Mem c L W) (hp : L = pre ++ ([b] ++ suf)) : Mem c (b :: (pre ++ suf)) W := by
  subst hp
  exact M.perm List.perm_middle
section
variable {P : Program} {ops : Array Oper} {rest : List Oper} {o : Oper} {a : Act} {w : World} {c : Ctx} {L : List Blk} {Q : Exit → Act → World → Prop}
/-- An element is put behind the others. -/
theorem pl_appS (M : Mem c L w) (hw : Region.wanted o (yielded ops a.tmps) = true) (d : Option Tmp) (hd : o.dst = d) (t ty e : TypeId) (K : Nat) (zv : Value) (ht : P.underlying t = some (.slice e)) (hin : InfoK P e K zv) (hzc : zv.cells.size = K) (pre T suf : List Blk) (hp : L = pre ++ (T ++ suf)) (sv : Value) (n : Nat) (l : List Value) (hS : SlV K l n sv T) (hle : n < 1000000) (j gx Tx : Nat) (F : Nat → Value) (hj : L[j]? = some ⟨gx, .cells (av K F) Tx⟩) (h1 : ∀ k, k < K → (F k).oneCell' = true)
    (hrun : ∀ w, (execOp a.eval o).run P w = (do pure (Next.value (← Builtin.append_ #[t, t] ty #[sv, .slice (some ⟨gx, 0, none⟩) 1 1]))).run P w)
    (h : ∀ sv' T' w', SlV K (l ++ (List.range K).map F) (n + 1) sv' T' → Mem c (pre ++ (T' ++ suf)) w' → PL P ops Q rest (a.put d sv') w') : PL P ops Q (o :: rest) a w := by
  obtain ⟨info, i1, i2, i3, i4⟩ := hin
  subst i3
  have hnl : ((List.range info.size).map F).length = info.size := by simp
  have hR := M.get j hj
  have hnews : ∀ k u, ((List.range info.size).map F)[k]? = some u → w.cell? ((⟨gx, 0, none⟩ : Addr).add k) = some u := fun k u hu => by
    have hk : k < info.size := by simpa using (List.getElem?_eq_some_iff.1 hu).1
    rw [add_at, Nat.zero_add, cell_av hR hk]
    rw [List.getElem?_map, List.getElem?_range hk] at hu
    exact hu
  have hone : ∀ u ∈ (List.range info.size).map F, u.oneCell' = true := fun u hu => by
    obtain ⟨k, hk, rfl⟩ := List.mem_map.1 hu
    exact h1 k (List.mem_range.1 hk)
  have hsrc : Src P info.size t (.slice (some ⟨gx, 0, none⟩) 1 1) 1 ((List.range info.size).map F) w := Src.ofSlice w ht ⟨gx, 0, none⟩ 1 1 _ (by rw [hnl, Nat.one_mul]) hnews hone
  have hlen := hS.len
  have grow : ∀ (base : Option Addr) (cap : Nat), sv = .slice base n cap → ¬ n < cap → n ≤ cap → (Builtin.firstCells info.size n (.slice base n cap)).run P w.drew = .ok l.toArray w.drew → PL P ops Q (o :: rest) a w := fun base cap hsv hroom hnc hold => by
    have hr := run_append_grow_src (P := P) w t t ty e info zv ht i1 i2 base n cap l hold (.slice (some ⟨gx, 0, none⟩) 1 1) 1 _ hsrc (by omega) (by omega) (growslice_fits (by omega) (by
        have := Nat.mul_le_mul (show n + 1 ≤ 1000000 by omega) i4
        omega))
    have hge := grownCap_ge w (n + 1) cap e
    generalize grownCap w (n + 1) cap e = nc at hr hge
    have hr2 : (execOp a.eval o).run P w = .ok (.value (.slice (some ⟨w.heap.size, 0, none⟩) (n + 1) nc)) (w.drew.alloc (.cells ((l ++ (List.range info.size).map F).toArray ++ Builtin.zeroCells zv.cells (nc - (n + 1))) e)) := by
      rw [hrun, hsv]
      simp only [Sem.run_bind, hr, Result.andThen_ok, Sem.run_pure]
    have hll : (l ++ (List.range info.size).map F).length = (n + 1) * info.size := by rw [List.length_append, hnl, hlen, Nat.succ_mul]
    obtain ⟨q, rfl⟩ : ∃ q, nc = n + 1 + q := ⟨nc - (n + 1), by omega⟩
    have hsz : ((l ++ (List.range info.size).map F).toArray ++ Builtin.zeroCells zv.cells (n + 1 + q - (n + 1))).size = (n + 1 + q) * info.size := by
      rw [Array.size_append, List.size_toArray, hll, size_zeroCells, hzc, Nat.add_sub_cancel_left, ← Nat.add_mul]
    have hcm : (n + 1) * info.size ≤ (n + 1 + q) * info.size := Nat.mul_le_mul_right _ (by omega)
    refine pl_to hw d hd _ _ hr2 (h _ [⟨w.heap.size, _⟩] _ ⟨hll, .inr ⟨w.heap.size, n + 1 + q, _, by omega, rfl, by omega, ⟨_, e, (0, 0), rfl, by rw [hll]; exact hcm, by rw [hsz]; exact Nat.le_refl _, fun k hk => ?_, fun k _ => by simp⟩, rfl⟩⟩ (M.drew.mid hp ⟨grown_below (new_below w.drew _) _, ?_, by simp, by simp⟩))
    · rw [Array.getElem?_append_left (by simpa using hk)]
      simp
    · simpa using heap_alloc_new w.drew _
  rcases hS.ex with ⟨hn0, hv, rfl⟩ | ⟨g, cap, Z, hn0, hv, hnc, hs, rfl⟩
  · subst hn0
    have hl0 : l = [] := List.length_eq_zero_iff.1 (by simpa using hlen)
    subst hl0
    exact grow none 0 hv (by omega) (by omega) (run_firstCells_none w.drew info.size 0 0 0)
  · have hz : w.heap[g]? = some Z := (M.thereM hp).at_ ⟨g, Z⟩ (by simp)
    by_cases hroom : n < cap
    · obtain ⟨cs, T, fr, hZ, h4, h5, h6, h7⟩ := hs.ex
      have hcm : n * info.size + info.size ≤ cap * info.size := by rw [← Nat.succ_mul]; exact Nat.mul_le_mul_right _ hroom
      obtain ⟨Z', h2, h3⟩ := hs.sets ((List.range info.size).map F) (by rw [hnl, hlen]; exact hcm) hz
      have hg := hz
      rw [hZ] at hg
      have hr := run_append_room_src (P := P) w t t ty e info ht i1 g 0 n cap (.slice (some ⟨gx, 0, none⟩) 1 1) 1 _ hsrc hroom (fun k hk => by
          rw [hnl] at hk
          rw [Nat.zero_add]
          unfold World.cell?
          rw [hg]
          simp
          omega) (fun k hk => by
          rw [hnl] at hk
          rw [Nat.zero_add]
          unfold World.frozen?
          rw [hg]
          exact h7 _ (by show n * info.size + k < cap * info.size; omega))
      rw [Nat.zero_add, ← hlen] at hr
      have hr2 : (execOp a.eval o).run P w = .ok (.value (.slice (some ⟨g, 0, none⟩) (n + 1) cap)) (w.setCells g l.length ((List.range info.size).map F)) := by
        rw [hrun, hv]
        simp only [Sem.run_bind, hr, Result.andThen_ok, Sem.run_pure]
      exact pl_to hw d hd _ _ hr2 (h _ [⟨g, Z'⟩] _ ⟨by rw [List.length_append, hnl, hlen, Nat.succ_mul], .inr ⟨g, cap, Z', by omega, rfl, by omega, h3, rfl⟩⟩ (M.mid hp ⟨grown_setCells g _ _ _, by simpa using h2, by simp, by simp⟩))
    · exact grow _ cap hv hroom hnc (run_firstCells_some w.drew info.size n ⟨g, 0, none⟩ n cap l hlen (fun k u hu => by rw [add_at, Nat.zero_add]; exact hs.cell (W := w.drew) hz hu))
end
/-- Pairs of cells, one behind the other. -/
def fl2 (f g : Nat → Value) : Nat → List Value
  | 0 => []
  | k + 1 => fl2 f g k ++ [f k, g k]
theorem fl2_len (f g : Nat → Value) : ∀ k, (fl2 f g k).length = k * 2
  | 0 => rfl
  | k + 1 => by simp only [fl2, List.length_append, fl2_len f g k, List.length_cons, List.length_nil]; omega
theorem fl2_at (f g : Nat → Value) : ∀ k j, j < k → (fl2 f g k)[j * 2]? = some (f j) ∧ (fl2 f g k)[j * 2 + 1]? = some (g j)
  | 0, j, h => absurd h (by omega)
  | k + 1, j, h => by
    have hl := fl2_len f g k
    simp only [fl2]
    by_cases e : j = k
    · subst e
      rw [List.getElem?_append_right (by omega), List.getElem?_append_right (by omega), hl, Nat.sub_self, show j * 2 + 1 - j * 2 = 1 by omega]
      exact ⟨rfl, rfl⟩
    · rw [List.getElem?_append_left (by omega), List.getElem?_append_left (by omega)]
      exact fl2_at f g k j (by omega)

end Go.Proofs.YtenafinbaanicaaDoor
