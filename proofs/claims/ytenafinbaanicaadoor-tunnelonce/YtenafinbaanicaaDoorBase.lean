/- The steps of a walk that a program types: which blocks are there and what they hold is one list; cells of any kind; a block that was there ahead of the call may be changed; what a package's variable holds. -/
import Derived.Test.YtenafinbaanicaaDoorFloatB
import Derived.Test.YtenafinbaanicaaDoorSteps
import Derived.Laws.AppendOwn
namespace Go.Proofs.YtenafinbaanicaaDoor
open Go.RowKit

/-- n cells, told by a function of the place. -/
def av (n : Nat) (F : Nat → Value) : Array Value := ((List.range n).map F).toArray
def w64 (f : Nat → Int) : Nat → Value := fun i => .int .u64 (f i)
def w32 (f : Nat → Int) : Nat → Value := fun i => .int .u32 (f i)
def w8 (f : Nat → Int) : Nat → Value := fun i => .int .u8 (f i)
theorem av_size (n : Nat) (F : Nat → Value) : (av n F).size = n := by simp [av]
theorem av_get (n : Nat) (F : Nat → Value) (i : Nat) (h : i < n) : (av n F)[i]? = some (F i) := by simp [av, h]
theorem av_congr {n : Nat} {F G : Nat → Value} (h : ∀ i, i < n → F i = G i) : av n F = av n G := by
  unfold av
  congr 1
  exact List.map_congr_left fun i hi => h i (List.mem_range.1 hi)
def upd {α : Type} (f : Nat → α) (k : Nat) (v : α) : Nat → α := fun i => if i = k then v else f i
theorem av_set (n : Nat) (F : Nat → Value) (k : Nat) (v : Value) : (av n F).setIfInBounds k v = av n (upd F k v) := by
  apply Array.ext_getElem?
  intro i
  by_cases hi : i < n
  · rw [Array.getElem?_setIfInBounds, av_get n (upd F k v) i hi]
    by_cases hk : k = i
    · subst hk
      rw [if_pos rfl, if_pos (by rw [av_size]; exact hi)]
      simp [upd]
    · have : ¬ i = k := fun h => hk h.symm
      rw [if_neg hk, av_get n F i hi]
      simp [upd, this]
  · rw [Array.getElem?_eq_none (by simp [av_size]; omega), Array.getElem?_eq_none (by simp [av_size]; omega)]

/-- A block and what it holds. -/
structure Blk where
  g : Nat
  Z : Obj

/-- Where a call began: the world, and the block of it that may be changed. -/
structure Ctx where
  w : World
  r : List Nat

/-- What the package variables hold: block 1. -/
def TF : Nat → Int := fun i => ([16, 12, 8, 7] : List Int).getD i 0
structure Laid (w : World) : Prop where
  t : ∀ i, i < 4 → w.cell? ⟨1, i, none⟩ = some (.int .i64 (TF i))
/-- Only these blocks have changed. -/
structure Grw (w w' : World) (r : List Nat) : Prop where
  os : w'.os = w.os
  tape : w'.tape = w.tape
  output : w'.output = w.output
  size : w.heap.size ≤ w'.heap.size
  block : ∀ k, k < w.heap.size → k ∉ r → w'.heap[k]? = w.heap[k]?
theorem Laid.lt {w : World} (h : Laid w) : 1 < w.heap.size := by
  refine Classical.byContradiction fun hn => ?_
  have h0 := h.t 0 (by decide)
  have : w.heap[1]? = none := Array.getElem?_eq_none (by omega)
  simp [World.cell?, this] at h0
theorem cell_of {w w' : World} {k : Nat} (e : w'.heap[k]? = w.heap[k]?) (i : Nat) : w'.cell? ⟨k, i, none⟩ = w.cell? ⟨k, i, none⟩ := by
  unfold World.cell?
  simp only
  rw [e]
theorem Laid.of {w w' : World} (h : Laid w) (e : ∀ k, k < 2 → w'.heap[k]? = w.heap[k]?) : Laid w' :=
  ⟨fun i hi => by rw [cell_of (e 1 (by decide))]; exact h.t i hi⟩

theorem grown_refl (w : World) (r : List Nat) : Grw w w r := ⟨rfl, rfl, rfl, Nat.le_refl _, fun _ _ _ => rfl⟩
theorem grown_below {w w' : World} (h : Below w.heap.size w w') (r : List Nat) : Grw w w' r := ⟨h.os, h.tape, h.output, h.size, fun k hk _ => h.block k hk⟩
theorem below_grown {w w' : World} (h : Grw w w' []) : Below w.heap.size w w' := ⟨h.os, h.tape, h.output, h.size, fun k hk => h.block k hk (by simp)⟩

/-- Only what may be changed has changed; these blocks are there, no two of them one. -/
structure Mem (c : Ctx) (L : List Blk) (W : World) : Prop where
  old : Grw c.w W c.r
  at_ : ∀ b ∈ L, W.heap[b.g]? = some b.Z
  ge : ∀ b ∈ L, c.w.heap.size ≤ b.g ∨ b.g ∈ c.r
  nodup : (L.map Blk.g).Nodup
  lay : Laid c.w
  ne : ∀ k ∈ c.r, 1 < k

theorem Mem.start {w : World} (h : Laid w) : Mem ⟨w, []⟩ [] w := ⟨grown_refl _ _, by simp, by simp, by simp, h, by simp⟩
theorem Mem.startp {w : World} (h : Laid w) {g : Nat} {Z : Obj} (hg : w.heap[g]? = some Z) (h0 : 1 < g) : Mem ⟨w, [g]⟩ [⟨g, Z⟩] w := ⟨grown_refl _ _, by simpa using hg, by simp, by simp, h, by simpa using h0⟩
theorem Mem.startp2 {w : World} (h : Laid w) {g k : Nat} {Z Y : Obj} (hg : w.heap[g]? = some Z) (h0 : 1 < g) (hk : w.heap[k]? = some Y) (k0 : 1 < k) (hne : g ≠ k) : Mem ⟨w, [g, k]⟩ [⟨g, Z⟩, ⟨k, Y⟩] w := ⟨grown_refl _ _, by simpa using ⟨hg, hk⟩, by simp, by simpa using hne, h, by simp; exact ⟨h0, k0⟩⟩

theorem Mem.laid {c : Ctx} {W : World} {L : List Blk} (M : Mem c L W) : Laid W := M.lay.of fun k hk => M.old.block k (Nat.lt_of_lt_of_le hk M.lay.lt) fun e => absurd (M.ne k e) (by omega)

theorem Mem.lt {c : Ctx} {W : World} {L : List Blk} (M : Mem c L W) {b : Blk} (hb : b ∈ L) : b.g < W.heap.size := by
  have h := M.at_ b hb
  exact (Array.getElem?_eq_some_iff.1 h).1

theorem grown_keep {c : Ctx} {W W' : World} (ho : Grw c.w W c.r) (h : Below W.heap.size W W') : Grw c.w W' c.r :=
  ⟨h.os.trans ho.os, h.tape.trans ho.tape, h.output.trans ho.output, Nat.le_trans ho.size h.size, fun k hk hr => (h.block k (Nat.lt_of_lt_of_le hk ho.size)).trans (ho.block k hk hr)⟩

theorem Mem.keep {c : Ctx} {W W' : World} {L : List Blk} (M : Mem c L W) (h : Below W.heap.size W W') : Mem c L W' where
  old := grown_keep M.old h
  at_ := fun b hb => by rw [h.block _ (M.lt hb)]; exact M.at_ b hb
  ge := M.ge
  nodup := M.nodup
  lay := M.lay
  ne := M.ne

theorem Mem.news {c : Ctx} {W W' : World} {L N : List Blk} (M : Mem c L W) (h : Below W.heap.size W W') (hat : ∀ b ∈ N, W'.heap[b.g]? = some b.Z) (hge : ∀ b ∈ N, W.heap.size ≤ b.g) (hnd : (N.map Blk.g).Nodup) : Mem c (L ++ N) W' where
  old := grown_keep M.old h
  at_ := fun b hb => by
    rcases List.mem_append.1 hb with hb | hb
    · rw [h.block _ (M.lt hb)]; exact M.at_ b hb
    · exact hat b hb
  ge := fun b hb => by
    rcases List.mem_append.1 hb with hb | hb
    · exact M.ge b hb
    · exact .inl (Nat.le_trans M.old.size (hge b hb))
  nodup := by
    rw [List.map_append, List.nodup_append]
    refine ⟨M.nodup, hnd, fun x hx y hy e => ?_⟩
    obtain ⟨b, hb, rfl⟩ := List.mem_map.1 hx
    obtain ⟨d, hd, rfl⟩ := List.mem_map.1 hy
    have h1 := M.lt hb
    have h2 := hge d hd
    omega
  lay := M.lay
  ne := M.ne

theorem Mem.new {c : Ctx} {W W' : World} {L : List Blk} (M : Mem c L W) (g : Nat) (Z : Obj) (h : Below W.heap.size W W') (hat : W'.heap[g]? = some Z) (hge : W.heap.size ≤ g) : Mem c (L ++ [⟨g, Z⟩]) W' :=
  M.news h (by simpa using hat) (by simpa using hge) (by simp)

theorem Mem.drop {c : Ctx} {W : World} {L L' : List Blk} (M : Mem c L W) (h : L'.Sublist L) : Mem c L' W where
  old := M.old
  at_ := fun b hb => M.at_ b (h.subset hb)
  ge := fun b hb => M.ge b (h.subset hb)
  nodup := M.nodup.sublist (h.map _)
  lay := M.lay
  ne := M.ne
theorem Mem.perm {c : Ctx} {W : World} {L L' : List Blk} (M : Mem c L W) (h : L.Perm L') : Mem c L' W where
  old := M.old
  at_ := fun b hb => M.at_ b (h.mem_iff.2 hb)
  ge := fun b hb => M.ge b (h.mem_iff.2 hb)
  nodup := (h.map _).nodup_iff.1 M.nodup
  lay := M.lay
  ne := M.ne
theorem Mem.drew {c : Ctx} {W : World} {L : List Blk} (M : Mem c L W) : Mem c L W.drew := M.keep ((Below.refl _ _).drew)

theorem nodup_ne {α : Type} {l : List α} (h : l.Nodup) {i j : Nat} (hij : i < j) (hj : j < l.length) : l[i]? ≠ l[j]? := by
  have h1 := List.pairwise_iff_getElem.1 h i j (by omega) hj hij
  rw [List.getElem?_eq_getElem (by omega), List.getElem?_eq_getElem hj]
  exact fun e => h1 (Option.some.inj e)
theorem nodup_of_map {α β : Type} {f : α → β} {l : List α} (h : (l.map f).Nodup) : l.Nodup := (List.pairwise_map.1 h).imp fun hab e => hab (by rw [e])
theorem fst_one {E : List (Nat × Nat)} (hnd : (E.map Prod.fst).Nodup) {x y : Nat × Nat} (hx : x ∈ E) (hy : y ∈ E) (e : x.1 = y.1) : x = y := by
  obtain ⟨i, hi⟩ := List.mem_iff_getElem?.1 hx
  obtain ⟨j, hj⟩ := List.mem_iff_getElem?.1 hy
  have li := (List.getElem?_eq_some_iff.1 hi).1
  have lj := (List.getElem?_eq_some_iff.1 hj).1
  rcases Nat.lt_trichotomy i j with hlt | heq | hlt
  · exact absurd (by simp [hi, hj, e]) (nodup_ne hnd hlt (by simpa using lj))
  · subst heq
    exact Option.some.inj (hi.symm.trans hj)
  · exact absurd (by simp [hi, hj, e]) (nodup_ne hnd hlt (by simpa using li))
theorem nodup_at {L : List Blk} (h : (L.map Blk.g).Nodup) {i j : Nat} {b c : Blk} (hi : L[i]? = some b) (hj : L[j]? = some c) (hij : i ≠ j) : b.g ≠ c.g := by
  intro e
  have h1 := List.getElem?_eq_some_iff.1 hi
  have h2 := List.getElem?_eq_some_iff.1 hj
  obtain ⟨l1, e1⟩ := h1
  obtain ⟨l2, e2⟩ := h2
  rcases Nat.lt_or_gt_of_ne hij with hlt | hlt
  · refine nodup_ne h hlt (by simpa using l2) ?_
    simp [hi, hj, e]
  · refine nodup_ne h hlt (by simpa using l1) ?_
    simp [hi, hj, e]

/-- Block i is changed, and none else. -/
theorem Mem.put {c : Ctx} {W W' : World} {L : List Blk} (M : Mem c L W) (i : Nat) (b : Blk) (hi : L[i]? = some b) (Z : Obj) (hu : Grw W W' [b.g]) (hz : W'.heap[b.g]? = some Z) : Mem c (L.set i ⟨b.g, Z⟩) W' where
  old := ⟨hu.os.trans M.old.os, hu.tape.trans M.old.tape, hu.output.trans M.old.output, Nat.le_trans M.old.size hu.size, fun k hk hr => by
    have hg := M.ge b (List.mem_of_getElem? hi)
    refine (hu.block k (Nat.lt_of_lt_of_le hk M.old.size) fun e => ?_).trans (M.old.block k hk hr)
    obtain rfl := List.mem_singleton.1 e
    rcases hg with hg | hg
    · omega
    · exact hr hg⟩
  at_ := fun d hd => by
    obtain ⟨j, hj⟩ := List.mem_iff_getElem?.1 hd
    rw [List.getElem?_set] at hj
    by_cases hij : i = j
    · subst hij
      rw [if_pos rfl] at hj
      split at hj
      · cases hj
        exact hz
      · cases hj
    · rw [if_neg hij] at hj
      have hm := List.mem_of_getElem? hj
      rw [hu.block _ (M.lt hm) (fun e => nodup_at M.nodup hj hi (Ne.symm hij) (List.mem_singleton.1 e))]
      exact M.at_ d hm
  ge := fun d hd => by
    obtain ⟨j, hj⟩ := List.mem_iff_getElem?.1 hd
    rw [List.getElem?_set] at hj
    by_cases hij : i = j
    · subst hij
      rw [if_pos rfl] at hj
      split at hj
      · cases hj
        exact M.ge b (List.mem_of_getElem? hi)
      · cases hj
    · rw [if_neg hij] at hj
      exact M.ge d (List.mem_of_getElem? hj)
  nodup := by
    have e : (L.set i ⟨b.g, Z⟩).map Blk.g = L.map Blk.g := by
      apply List.ext_getElem?
      intro j
      simp only [List.getElem?_map, List.getElem?_set]
      by_cases hij : i = j
      · subst hij
        rw [if_pos rfl, hi]
        have := (List.getElem?_eq_some_iff.1 hi).1
        simp [this]
      · rw [if_neg hij]
    rw [e]
    exact M.nodup
  lay := M.lay
  ne := M.ne

/-- Blocks i and j are changed, and none else. -/
theorem Mem.put2 {c : Ctx} {W W' : World} {L : List Blk} (M : Mem c L W) (i j : Nat) (b d : Blk) (hi : L[i]? = some b) (hj : L[j]? = some d) (Z Y : Obj) (hu : Grw W W' [b.g, d.g]) (hz : W'.heap[b.g]? = some Z) (hy : W'.heap[d.g]? = some Y) : Mem c ((L.set i ⟨b.g, Z⟩).set j ⟨d.g, Y⟩) W' := by
  have hmem : ∀ x ∈ (L.set i ⟨b.g, Z⟩).set j ⟨d.g, Y⟩, W'.heap[x.g]? = some x.Z ∧ ∃ y ∈ L, y.g = x.g := fun x hx => by
    obtain ⟨k, hk⟩ := List.mem_iff_getElem?.1 hx
    rw [List.getElem?_set] at hk
    by_cases hjk : j = k
    · subst hjk
      rw [if_pos rfl] at hk
      split at hk
      · cases hk
        exact ⟨hy, d, List.mem_of_getElem? hj, rfl⟩
      · cases hk
    · rw [if_neg hjk, List.getElem?_set] at hk
      by_cases hik : i = k
      · subst hik
        rw [if_pos rfl] at hk
        split at hk
        · cases hk
          exact ⟨hz, b, List.mem_of_getElem? hi, rfl⟩
        · cases hk
      · rw [if_neg hik] at hk
        have hm := List.mem_of_getElem? hk
        refine ⟨?_, x, hm, rfl⟩
        rw [hu.block _ (M.lt hm) (fun e => by
          rcases List.mem_cons.1 e with e | e
          · exact nodup_at M.nodup hk hi (Ne.symm hik) e
          · exact nodup_at M.nodup hk hj (Ne.symm hjk) (List.mem_singleton.1 e))]
        exact M.at_ x hm
  refine ⟨⟨hu.os.trans M.old.os, hu.tape.trans M.old.tape, hu.output.trans M.old.output, Nat.le_trans M.old.size hu.size, fun k hk hr => ?_⟩, fun x hx => (hmem x hx).1, fun x hx => ?_, ?_, M.lay, M.ne⟩
  · refine (hu.block k (Nat.lt_of_lt_of_le hk M.old.size) fun e => ?_).trans (M.old.block k hk hr)
    have key : ∀ y ∈ L, k ≠ y.g := fun y hy2 e2 => by
      rcases M.ge y hy2 with h | h
      · omega
      · exact hr (e2 ▸ h)
    rcases List.mem_cons.1 e with e | e
    · exact key b (List.mem_of_getElem? hi) e
    · exact key d (List.mem_of_getElem? hj) (List.mem_singleton.1 e)
  · obtain ⟨y, hy2, e⟩ := (hmem x hx).2
    rw [← e]
    exact M.ge y hy2
  · have e : ((L.set i ⟨b.g, Z⟩).set j ⟨d.g, Y⟩).map Blk.g = L.map Blk.g := by
      apply List.ext_getElem?
      intro k
      simp only [List.getElem?_map, List.getElem?_set]
      by_cases hjk : j = k
      · subst hjk
        have := (List.getElem?_eq_some_iff.1 hj).1
        rw [if_pos rfl, hj]
        simp [this]
      · rw [if_neg hjk]
        by_cases hik : i = k
        · subst hik
          have := (List.getElem?_eq_some_iff.1 hi).1
          rw [if_pos rfl, hi]
          simp [this]
        · rw [if_neg hik]
    rw [e]
    exact M.nodup

theorem Mem.get {c : Ctx} {W : World} {L : List Blk} (M : Mem c L W) (i : Nat) {g : Nat} {Z : Obj} (hi : L[i]? = some ⟨g, Z⟩) : W.heap[g]? = some Z := M.at_ _ (List.mem_of_getElem? hi)
theorem Mem.ne0 {c : Ctx} {W : World} {L : List Blk} (M : Mem c L W) (i : Nat) {g : Nat} {Z : Obj} (hi : L[i]? = some ⟨g, Z⟩) : 1 < g := by
  rcases M.ge _ (List.mem_of_getElem? hi) with h | h
  · exact Nat.lt_of_lt_of_le M.lay.lt h
  · exact M.ne _ h

theorem grown_trans {w1 w2 w3 : World} {r : List Nat} (h : Grw w1 w2 r) (k : Grw w2 w3 r) : Grw w1 w3 r := ⟨k.os.trans h.os, k.tape.trans h.tape, k.output.trans h.output, Nat.le_trans h.size k.size, fun j hj hr => (k.block j (Nat.lt_of_lt_of_le hj h.size) hr).trans (h.block j hj hr)⟩
theorem grown_setCell (W : World) (g o : Nat) (v : Value) : Grw W (W.setCell ⟨g, o, none⟩ v) [g] :=
  ⟨rfl, rfl, rfl, by simp, fun k _ hr => Below.heap_setCell _ _ _ _ (fun e => hr (by rw [e]; exact List.mem_singleton.2 rfl))⟩
theorem grown_setCells (g : Nat) (vs : List Value) : ∀ (W : World) (o : Nat), Grw W (W.setCells g o vs) [g] := by
  induction vs with
  | nil => intro W o; exact grown_refl _ _
  | cons v vs ih => intro W o; exact grown_trans (grown_setCell W g o v) (ih _ _)

/-- The cells of a block. -/
theorem cell_av {W : World} {g n T : Nat} {F : Nat → Value} {fr : Nat × Nat} (h : W.heap[g]? = some (.cells (av n F) T fr)) {i : Nat} (hi : i < n) : W.cell? ⟨g, i, none⟩ = some (F i) := by
  unfold World.cell?
  rw [h]
  simpa using av_get n F i hi
theorem free_av {W : World} {g n T : Nat} {F : Nat → Value} (h : W.heap[g]? = some (.cells (av n F) T (0, 0))) (i : Nat) : W.frozen? ⟨g, i, none⟩ = false := by
  unfold World.frozen?
  rw [h]
  simp
theorem av_toList_get (n : Nat) (F : Nat → Value) (j : Nat) (v : Value) (h : (av n F).toList[j]? = some v) : j < n ∧ v = F j := by
  have hj : j < n := by
    have := (List.getElem?_eq_some_iff.1 h).1
    simpa [av_size] using this
  refine ⟨hj, ?_⟩
  have h2 := av_get n F j hj
  rw [Array.getElem?_toList] at h
  rw [h2] at h
  exact (Option.some.inj h).symm
theorem range_av {W : World} {g n T : Nat} {F : Nat → Value} {fr : Nat × Nat} (h : W.heap[g]? = some (.cells (av n F) T fr)) (o k : Nat) (F' : Nat → Value) (hok : o + k ≤ n) (he : ∀ i, i < k → F (o + i) = F' i) : W.rangeAt g o (av k F').toList := by
  intro j v hv
  obtain ⟨hj, rfl⟩ := av_toList_get k F' j v hv
  rw [cell_av h (by omega), he j hj]
theorem there_av {W : World} {g n T : Nat} {F : Nat → Value} (h : W.heap[g]? = some (.cells (av n F) T (0, 0))) (o k : Nat) (hk : o + k ≤ n) : W.there g o k := fun j hj => by
  rw [cell_av h (by omega)]
  exact ⟨rfl, free_av h _⟩
theorem setAll_av (n : Nat) (F F' Fn : Nat → Value) (off k : Nat) (hk : off + k ≤ n) (hfn : ∀ j, j < n → (if off ≤ j ∧ j < off + k then F' (j - off) else F j) = Fn j) : setAll (av n F) off (av k F').toList = av n Fn := by
  have hlen : (av k F').toList.length = k := by simp [av_size]
  apply Array.ext_getElem?
  intro i
  rw [setAll_get _ _ _ _ (by rw [hlen, av_size]; exact hk), hlen]
  by_cases hi : i < n
  · rw [av_get n Fn i hi, ← hfn i hi]
    by_cases h : off ≤ i ∧ i < off + k
    · rw [if_pos h, if_pos h, Array.getElem?_toList, av_get k F' _ (by omega)]
    · rw [if_neg h, if_neg h, av_get n F i hi]
  · rw [if_neg (by omega), Array.getElem?_eq_none (by rw [av_size]; omega), Array.getElem?_eq_none (by rw [av_size]; omega)]
theorem av_one (n : Nat) (F : Nat → Value) (h : ∀ i, i < n → (F i).oneCell' = true) : (av n F).all (·.oneCell') = true := by
  rw [Array.all_eq_true]
  intro i hi
  have hi' : i < n := by rw [av_size] at hi; exact hi
  have h2 := av_get n F i hi'
  rw [Array.getElem?_eq_getElem hi] at h2
  rw [Option.some.inj h2]
  exact h i hi'

/-- The walk of a list of operations, under a name that is not laid open. -/
structure PL (P : Program) (ops : Array Oper) (Q : Exit → Act → World → Prop) (l : List Oper) (a : Act) (w : World) : Prop where
  out : wpList P ops Q l a w
structure KL (P : Program) (ops : Array Oper) (W : World) (Q : Act → Prop) (l : List Oper) (a : Act) : Prop where
  out : wpK P ops W Q l a

section
variable {P : Program} {ops : Array Oper} {rest : List Oper} {o : Oper} {a : Act} {w : World} {c : Ctx} {L : List Blk} {Q : Exit → Act → World → Prop} {K : Act → World → Prop}

theorem rg_lit {id : Nat} {l : List Oper} (h : PL P l.toArray Q l a w) : (Code.region id l.toArray false).wp P Q a w := wp_region_lit h.out
theorem pl_nil (h : Q .normal a w) : PL P ops Q [] a w := ⟨h⟩

theorem want_no (hg : o.guard = none) : Region.wanted o (yielded ops a.tmps) = true := by
  unfold Region.wanted
  rw [hg]
def boolOf : Value → Option Bool
  | .bool b => some b
  | _ => none
theorem yielded_at (j : Nat) (t : Tmp) (hd : (ops.toList[j]?).bind (·.dst) = some t) (v : Value) (hv : a.eval (.tmp t) = v) : yielded ops a.tmps j = boolOf v := by
  have hd' : (ops[j]?).bind (·.dst) = some t := by rw [← Array.getElem?_toList]; exact hd
  have e : a.tmps[t]?.getD undef = v := by rw [← hv]; simp [Act.eval]
  unfold yielded
  rw [hd']
  simp only [Option.bind_some]
  cases h : a.tmps[t]? with
  | none =>
    rw [h] at e
    rw [← e]
    rfl
  | some u =>
    rw [h] at e
    rw [← e]
    cases u <;> rfl
theorem want_on (j : Nat) (b : Bool) (hg : o.guard = some (j, b)) (t : Tmp) (hd : (ops.toList[j]?).bind (·.dst) = some t) (hv : a.eval (.tmp t) = .bool b) : Region.wanted o (yielded ops a.tmps) = true := by
  unfold Region.wanted
  rw [hg]
  simp only
  rw [yielded_at j t hd _ hv]
  simp [boolOf]
theorem want_off (j : Nat) (b : Bool) (hg : o.guard = some (j, b)) (t : Tmp) (hd : (ops.toList[j]?).bind (·.dst) = some t) (hv : a.eval (.tmp t) = .bool (!b)) : Region.wanted o (yielded ops a.tmps) = false := by
  unfold Region.wanted
  rw [hg]
  simp only
  rw [yielded_at j t hd _ hv]
  cases b <;> rfl
theorem want_und (j : Nat) (b : Bool) (hg : o.guard = some (j, b)) (t : Tmp) (hd : (ops.toList[j]?).bind (·.dst) = some t) (hv : a.eval (.tmp t) = undef) : Region.wanted o (yielded ops a.tmps) = false := by
  unfold Region.wanted
  rw [hg]
  simp only
  rw [yielded_at j t hd _ hv]
  rfl

theorem au_then (h : K a w) : Exit.then K Q .normal a w := h
theorem au_then_ret (h : Q .ret a w) : Exit.then K Q .ret a w := h
theorem au_then_exit {i : Nat} (h : Q (.exit i) a w) : Exit.then K Q (.exit i) a w := h
theorem au_block {id : Nat} (h : Q .normal a w) : Exit.inBlock id Q .normal a w := h
theorem au_block_ret {id : Nat} (h : Q .ret a w) : Exit.inBlock id Q .ret a w := h
theorem au_block_exit {id : Nat} (h : Q .normal a w) : Exit.inBlock id Q (.exit id) a w := by
  show (if id = id then Q .normal a w else Q (.exit id) a w)
  rw [if_pos rfl]
  exact h

theorem pl_to (hw : Region.wanted o (yielded ops a.tmps) = true) (d : Option Tmp) (hd : o.dst = d) (v : Value) (w' : World) (hrun : (execOp a.eval o).run P w = .ok (.value v) w')
    (h : PL P ops Q rest (a.put d v) w') : PL P ops Q (o :: rest) a w :=
  ⟨Go.BigFrame.wpList_want hw fun _ hK => by
    unfold Oper.wp
    rw [hrun]
    subst hd
    exact hK _ _ h.out⟩

theorem pl_val (hw : Region.wanted o (yielded ops a.tmps) = true) (d : Option Tmp) (hd : o.dst = d) (v : Value) (hrun : ∀ w, (execOp a.eval o).run P w = .ok (.value v) w)
    (h : PL P ops Q rest (a.put d v) w) : PL P ops Q (o :: rest) a w := pl_to hw d hd v w (hrun w) h

theorem pl_skip (hw : Region.wanted o (yielded ops a.tmps) = false) (d : Option Tmp) (hd : o.dst = d) (h : PL P ops Q rest (a.put d undef) w) : PL P ops Q (o :: rest) a w := by
  subst hd
  exact ⟨wpList_skip hw h.out⟩

theorem new_below (W : World) (o : Obj) : Below W.heap.size W (W.alloc o) := (Below.refl _ _).alloc (Nat.le_refl _) _

/-- A new block; the value tells where it is. -/
theorem pl_mk (M : Mem c L w) (hw : Region.wanted o (yielded ops a.tmps) = true) (d : Option Tmp) (hd : o.dst = d) (v : Nat → Value) (Z : Obj) (hrun : ∀ w, (execOp a.eval o).run P w = .ok (.value (v w.heap.size)) (w.alloc Z))
    (h : ∀ g w', Mem c (L ++ [⟨g, Z⟩]) w' → PL P ops Q rest (a.put d (v g)) w') : PL P ops Q (o :: rest) a w :=
  pl_to hw d hd _ _ (hrun w) (h w.heap.size (w.alloc Z) (M.new _ Z (new_below w Z) (heap_alloc_new w Z) (Nat.le_refl _)))

theorem pl_new (M : Mem c L w) (hw : Region.wanted o (yielded ops a.tmps) = true) (d : Option Tmp) (hd : o.dst = d) (Z : Obj) (hrun : ∀ w, (execOp a.eval o).run P w = .ok (.value (.pointer (some ⟨w.heap.size, 0, none⟩))) (w.alloc Z))
    (h : ∀ g w', Mem c (L ++ [⟨g, Z⟩]) w' → PL P ops Q rest (a.put d (.pointer (some ⟨g, 0, none⟩))) w') : PL P ops Q (o :: rest) a w :=
  pl_mk M hw d hd (fun g => .pointer (some ⟨g, 0, none⟩)) Z hrun h

theorem pl_callq (hw : Region.wanted o (yielded ops a.tmps) = true) (d : Option Tmp) (hd : o.dst = d) (f : FuncId) (args : Array Value) (hrun : ∀ w, (execOp a.eval o).run P w = .ok (.enter f args) w)
    (hc : Calls P f args w fun e w' => ∃ v, e = .returned v ∧ PL P ops Q rest (a.put d v) w') : PL P ops Q (o :: rest) a w :=
  ⟨Go.BigFrame.wpList_want hw fun _ hK => by
    unfold Oper.wp
    rw [hrun]
    subst hd
    exact hc.mono fun e w' ⟨v, he, hb⟩ => by subst he; exact hK _ _ hb.out⟩

/-- A call that changes nothing that is there. -/
theorem pl_call (M : Mem c L w) (hw : Region.wanted o (yielded ops a.tmps) = true) (d : Option Tmp) (hd : o.dst = d) (f : FuncId) (args : Array Value) (v : Value) (hrun : ∀ w, (execOp a.eval o).run P w = .ok (.enter f args) w)
    (hc : ∀ w, Mem c L w → Calls P f args w fun e w' => e = .returned v ∧ Below w.heap.size w w') (h : ∀ w', Mem c L w' → PL P ops Q rest (a.put d v) w') : PL P ops Q (o :: rest) a w :=
  pl_callq hw d hd f args hrun ((hc w M).mono fun _ w' ⟨he, hb⟩ => ⟨v, he, h w' (M.keep hb)⟩)

/-- A call that makes a block and tells where it is. -/
theorem pl_calln (M : Mem c L w) (hw : Region.wanted o (yielded ops a.tmps) = true) (d : Option Tmp) (hd : o.dst = d) (f : FuncId) (args : Array Value) (v : Nat → Value) (Z : Obj) (hrun : ∀ w, (execOp a.eval o).run P w = .ok (.enter f args) w)
    (hc : ∀ w, Mem c L w → Calls P f args w fun e w' => ∃ g, e = .returned (v g) ∧ w.heap.size ≤ g ∧ w'.heap[g]? = some Z ∧ Below w.heap.size w w') (h : ∀ g w', Mem c (L ++ [⟨g, Z⟩]) w' → PL P ops Q rest (a.put d (v g)) w') : PL P ops Q (o :: rest) a w :=
  pl_callq hw d hd f args hrun ((hc w M).mono fun _ w' ⟨g, he, h1, h2, hb⟩ => ⟨v g, he, h g w' (M.new g Z hb h2 h1)⟩)

/-- A call that changes one block. -/
theorem pl_callp (M : Mem c L w) (hw : Region.wanted o (yielded ops a.tmps) = true) (d : Option Tmp) (hd : o.dst = d) (f : FuncId) (args : Array Value) (v : Value) (i g : Nat) (Z Z' : Obj) (hi : L[i]? = some ⟨g, Z⟩) (hrun : ∀ w, (execOp a.eval o).run P w = .ok (.enter f args) w)
    (hc : ∀ w, Mem c L w → Calls P f args w fun e w' => e = .returned v ∧ Grw w w' [g] ∧ w'.heap[g]? = some Z') (h : ∀ w', Mem c (L.set i ⟨g, Z'⟩) w' → PL P ops Q rest (a.put d v) w') : PL P ops Q (o :: rest) a w :=
  pl_callq hw d hd f args hrun ((hc w M).mono fun _ w' ⟨he, h1, h2⟩ => ⟨v, he, h w' (M.put i ⟨g, Z⟩ hi Z' h1 h2)⟩)

/-- A call that changes two blocks. -/
theorem pl_callp2 (M : Mem c L w) (hw : Region.wanted o (yielded ops a.tmps) = true) (d : Option Tmp) (hd : o.dst = d) (f : FuncId) (args : Array Value) (v : Value) (i j g k : Nat) (Z Y Z' : Obj) (R : Obj → Prop) (hi : L[i]? = some ⟨g, Z⟩) (hj : L[j]? = some ⟨k, Y⟩) (hrun : ∀ w, (execOp a.eval o).run P w = .ok (.enter f args) w)
    (hc : ∀ w, Mem c L w → Calls P f args w fun e w' => ∃ Y', e = .returned v ∧ Grw w w' [g, k] ∧ w'.heap[g]? = some Z' ∧ w'.heap[k]? = some Y' ∧ R Y') (h : ∀ Y' w', R Y' → Mem c ((L.set i ⟨g, Z'⟩).set j ⟨k, Y'⟩) w' → PL P ops Q rest (a.put d v) w') : PL P ops Q (o :: rest) a w :=
  pl_callq hw d hd f args hrun ((hc w M).mono fun _ w' ⟨Y', he, h1, h2, h3, h4⟩ => ⟨v, he, h Y' w' h4 (M.put2 i j ⟨g, Z⟩ ⟨k, Y⟩ hi hj Z' Y' h1 h2 h3)⟩)

theorem pl_load (M : Mem c L w) (hw : Region.wanted o (yielded ops a.tmps) = true) (d : Option Tmp) (hd : o.dst = d) (ty : TypeId) (x : Operand) (ho : o.op = .load ty x) (i g off : Nat) (hx : a.eval x = .pointer (some ⟨g, off, none⟩)) (n T : Nat) (F : Nat → Value) (hi : L[i]? = some ⟨g, .cells (av n F) T⟩)
    (k : Nat) (F' : Nat → Value) (hp : ∀ j, j < k → F (off + j) = F' j) (hk : off + k ≤ n) (t : TypeDesc) (hu : P.underlying ty = some t) (ht : t.isRow = true) (hz : (P.info? ty).map (·.size) = some k)
    (h : PL P ops Q rest (a.put d (.agg (av k F'))) w) : PL P ops Q (o :: rest) a w := by
  refine pl_to hw d hd (.agg (av k F')) w ?_ h
  unfold execOp
  have hl := run_loadAt_mid (P := P) w g off ty (av k F').toList t (range_av (M.get i hi) off k F' hk hp) hu ht (by rw [hz]; simp [av_size])
  simp only [ho, hx, Sem.run_bind, hl, Result.andThen_ok, Sem.run_pure, Array.toArray_toList]

theorem run_cell {w : World} {g k : Nat} {v : Value} (hc : w.cell? ⟨g, k, none⟩ = some v) (ty : TypeId) (hag : ∀ w, (isAgg ty).run P w = .ok false w) : (Instr.loadAt ty (.pointer (some ⟨g, k, none⟩))).run P w = .ok v w := by
  simp [Instr.loadAt, Instr.sureAddr, loadVar, hag, hc]

/-- One cell. -/
theorem pl_cell (M : Mem c L w) (hw : Region.wanted o (yielded ops a.tmps) = true) (d : Option Tmp) (hd : o.dst = d) (ty : TypeId) (x : Operand) (ho : o.op = .load ty x) (g off : Nat) (hx : a.eval x = .pointer (some ⟨g, off, none⟩)) (v : Value) (hag : ∀ w, (isAgg ty).run P w = .ok false w) (hc : ∀ w, Mem c L w → w.cell? ⟨g, off, none⟩ = some v)
    (h : PL P ops Q rest (a.put d v) w) : PL P ops Q (o :: rest) a w := by
  refine pl_to hw d hd v w ?_ h
  have hr := run_cell (P := P) (hc w M) ty hag
  unfold execOp
  simp only [ho, hx, Sem.run_bind, hr, Result.andThen_ok, Sem.run_pure]

theorem Mem.cell {W : World} (M : Mem c L W) (i : Nat) {g n T : Nat} {F : Nat → Value} (hi : L[i]? = some ⟨g, .cells (av n F) T⟩) {k : Nat} (hk : k < n) {v : Value} (hv : F k = v) : W.cell? ⟨g, k, none⟩ = some v := by
  rw [cell_av (M.get i hi) hk, hv]

theorem pl_put (M : Mem c L w) (hw : Region.wanted o (yielded ops a.tmps) = true) (hd : o.dst = none) (ty : TypeId) (x y : Operand) (ho : o.op = .store ty x y) (i g off : Nat) (hx : a.eval x = .pointer (some ⟨g, off, none⟩)) (n T : Nat) (F : Nat → Value) (hi : L[i]? = some ⟨g, .cells (av n F) T⟩) (k : Nat) (F' Fn : Nat → Value)
    (hy : a.eval y = .agg (av k F')) (hz : (P.info? ty).map (·.size) = some k) (hk : off + k ≤ n) (h1 : ∀ j, j < k → (F' j).oneCell' = true) (hfn : ∀ j, j < n → (if off ≤ j ∧ j < off + k then F' (j - off) else F j) = Fn j)
    (h : ∀ w', Mem c (L.set i ⟨g, .cells (av n Fn) T⟩) w' → PL P ops Q rest a w') : PL P ops Q (o :: rest) a w := by
  have R := M.get i hi
  refine ⟨Go.BigFrame.wpList_want hw fun K hK => wp_store_mid ty x y ho g off (av k F') hx hy (by rw [av_size]; exact there_av R off k hk) (by rw [hz, av_size]) (av_one _ _ h1) (hK _ _ ?_)⟩
  rw [hd]
  refine PL.out ?_
  exact h _ (M.put i ⟨g, _⟩ hi _ (grown_setCells g _ _ _) (by rw [heap_setCells g T _ w _ off R, setAll_av n F F' Fn off k hk hfn]))

/-- One cell is stored. -/
theorem pl_put1 (M : Mem c L w) (hw : Region.wanted o (yielded ops a.tmps) = true) (hd : o.dst = none) (ty : TypeId) (x y : Operand) (ho : o.op = .store ty x y) (i g off : Nat) (hx : a.eval x = .pointer (some ⟨g, off, none⟩)) (n T : Nat) (F : Nat → Value) (hi : L[i]? = some ⟨g, .cells (av n F) T⟩) (v : Value) (Fn : Nat → Value)
    (hy : a.eval y = v) (hz : (P.info? ty).map (·.size) = some 1) (hk : off < n) (h1 : v.oneCell' = true) (hc : v.cells = #[v]) (hfn : ∀ j, j < n → (if j = off then v else F j) = Fn j)
    (h : ∀ w', Mem c (L.set i ⟨g, .cells (av n Fn) T⟩) w' → PL P ops Q rest a w') : PL P ops Q (o :: rest) a w := by
  have R := M.get i hi
  have h3 := h (w.setCell ⟨g, off, none⟩ v) (M.put i ⟨g, _⟩ hi _ (grown_setCell w g off v) (by
    rw [heap_setCell_same w g off _ T _ R, av_set]
    congr 2
    exact av_congr fun j hj => by rw [← hfn j hj]; rfl))
  have hrun : (Instr.storeAt ty (.pointer (some ⟨g, off, none⟩)) v).run P w = .ok () (w.setCell ⟨g, off, none⟩ v) := by
    cases hq : P.info? ty with
    | none => simp [hq] at hz
    | some t =>
      have ht : t.size = 1 := by simpa [hq] using hz
      have hcc := run_storeCells_cells (P := P) g off [v] 0 w (by intro j hj; simp at hj; subst hj; simp [cell_av R hk]) (by intro j hj; simp at hj; subst hj; simpa using free_av R off) (by simpa using h1)
      simp only [Nat.add_zero, World.setCells] at hcc
      simp [Instr.storeAt, Instr.sureAddr, storeVar, sizeOf, typeInfo, hq, ht, hc, hcc]
  refine ⟨Go.BigFrame.wpList_want hw fun K hK => ?_⟩
  unfold Oper.wp execOp
  simp only [ho, hx, hy, Sem.run_bind, hrun, Result.andThen_ok, Sem.run_pure]
  show K (a.put o.dst undef) _
  rw [hd]
  exact hK _ _ h3.out
end

section
variable {P : Program} {ops : Array Oper} {rest : List Oper} {o : Oper} {a : Act} {W : World} {c : Ctx} {L : List Blk} {Q : Act → Prop}

/-- What one value is in every world that keeps W. -/
theorem k_any (hw : Region.wanted o (yielded ops a.tmps) = true) (d : Option Tmp) (hd : o.dst = d) (v : Value) (hrun : ∀ s : KW W, (execOp a.eval o).run P s.w = .ok (.value v) s.w) (h : KL P ops W Q rest (a.put d v)) : KL P ops W Q (o :: rest) a := by
  subst hd
  refine ⟨?_⟩
  unfold wpK
  rw [if_pos hw]
  refine ⟨v, fun s => ?_, h.out⟩
  unfold keepAt
  rw [hrun]
  exact ⟨rfl, rfl⟩

theorem k_val (hw : Region.wanted o (yielded ops a.tmps) = true) (d : Option Tmp) (hd : o.dst = d) (v : Value) (hrun : ∀ w, (execOp a.eval o).run P w = .ok (.value v) w) (h : KL P ops W Q rest (a.put d v)) : KL P ops W Q (o :: rest) a := k_any hw d hd v (fun s => hrun s.w) h

theorem k_skip (hw : Region.wanted o (yielded ops a.tmps) = false) (d : Option Tmp) (hd : o.dst = d) (h : KL P ops W Q rest (a.put d undef)) : KL P ops W Q (o :: rest) a := by
  subst hd
  refine ⟨?_⟩
  unfold wpK
  rw [if_neg (by rw [hw]; exact Bool.false_ne_true)]
  exact h.out

theorem k_call (M : Mem c L W) (hw : Region.wanted o (yielded ops a.tmps) = true) (d : Option Tmp) (hd : o.dst = d) (f : FuncId) (args : Array Value) (v : Value) (hrun : ∀ w, (execOp a.eval o).run P w = .ok (.enter f args) w)
    (hc : ∀ w, Mem c L w → Calls P f args w fun e w' => e = .returned v ∧ Below w.heap.size w w') (h : KL P ops W Q rest (a.put d v)) : KL P ops W Q (o :: rest) a := by
  subst hd
  refine ⟨?_⟩
  unfold wpK
  rw [if_pos hw]
  refine ⟨v, fun s => ?_, h.out⟩
  unfold keepAt
  rw [hrun]
  exact ⟨rfl, hc s.w (M.keep s.keep)⟩

theorem k_load (M : Mem c L W) (hw : Region.wanted o (yielded ops a.tmps) = true) (d : Option Tmp) (hd : o.dst = d) (ty : TypeId) (x : Operand) (ho : o.op = .load ty x) (i g off : Nat) (hx : a.eval x = .pointer (some ⟨g, off, none⟩)) (n T : Nat) (F : Nat → Value) (hi : L[i]? = some ⟨g, .cells (av n F) T⟩)
    (k : Nat) (F' : Nat → Value) (hp : ∀ j, j < k → F (off + j) = F' j) (hk : off + k ≤ n) (t : TypeDesc) (hu : P.underlying ty = some t) (ht : t.isRow = true) (hz : (P.info? ty).map (·.size) = some k)
    (h : KL P ops W Q rest (a.put d (.agg (av k F')))) : KL P ops W Q (o :: rest) a := by
  refine k_any hw d hd (.agg (av k F')) (fun s => ?_) h
  unfold execOp
  have hl := run_loadAt_mid (P := P) s.w g off ty (av k F').toList t (range_av ((M.keep s.keep).get i hi) off k F' hk hp) hu ht (by rw [hz]; simp [av_size])
  simp only [ho, hx, Sem.run_bind, hl, Result.andThen_ok, Sem.run_pure, Array.toArray_toList]

theorem k_cell (M : Mem c L W) (hw : Region.wanted o (yielded ops a.tmps) = true) (d : Option Tmp) (hd : o.dst = d) (ty : TypeId) (x : Operand) (ho : o.op = .load ty x) (g off : Nat) (hx : a.eval x = .pointer (some ⟨g, off, none⟩)) (v : Value) (hag : ∀ w, (isAgg ty).run P w = .ok false w) (hc : ∀ w, Mem c L w → w.cell? ⟨g, off, none⟩ = some v)
    (h : KL P ops W Q rest (a.put d v)) : KL P ops W Q (o :: rest) a := by
  refine k_any hw d hd v (fun s => ?_) h
  have hr := run_cell (P := P) (hc s.w (M.keep s.keep)) ty hag
  unfold execOp
  simp only [ho, hx, Sem.run_bind, hr, Result.andThen_ok, Sem.run_pure]

theorem kl_nil (h : Q a) : KL P ops W Q [] a := ⟨h⟩
theorem quiet_of_K : ∀ (l : List Oper) (a : Act), wpK P ops W Q l a → wpQuiet P ops (fun w' => ∃ s : KW W, w' = s.w) Q l a
  | [], _, h => h
  | o :: l, a, h => by
    unfold wpK at h
    unfold wpQuiet
    split
    · rename_i hw
      rw [if_pos hw] at h
      obtain ⟨v, h1, h2⟩ := h
      refine ⟨v, fun w' => ?_, quiet_of_K l _ h2⟩
      rintro ⟨s, rfl⟩
      have h3 := h1 s
      unfold keepAt at h3
      unfold Oper.quietAt
      generalize (execOp a.eval o).run P s.w = r at *
      cases r with
      | ok x w' =>
        cases x <;> simp only [keepUpon] at h3 <;> simp only [Oper.quietUpon]
        case value => exact h3
        case skip => exact h3
        case enter f args => exact ⟨h3.1, keep_of h3.2⟩
      | halt x w' => simp only [keepUpon] at h3
    · rename_i hw
      rw [if_neg hw] at h
      exact quiet_of_K l _ h
end

section
variable {P : Program} {W : World} {c : Ctx} {L : List Blk} {Q : Exit → Act → World → Prop} {a : Act}

/-- A region that draws, with calls, and a tail in the text's order. -/
theorem rg_tail {id : Nat} {l : List Oper} (M : Mem c L W) (n : Nat) (hm : P.follows .mixedOrders = true) (hB : Region.lexTailB .any l.toArray n = true)
    (h0 : KL P l.toArray W (fun a' => ∀ w', Mem c L w' → PL P l.toArray Q (l.drop n) a' w') (l.take n) a) : (Code.region id l.toArray true).wp P Q a W := by
  have h := h0.out
  refine wp_region_keep_tail n hm hB (quiet_of_K _ _ ?_)
  have key : ∀ (l1 : List Oper) (a1 : Act), wpK P l.toArray W (fun a' => ∀ w', Mem c L w' → PL P l.toArray Q (l.drop n) a' w') l1 a1 → wpK P l.toArray W (fun a' => ∀ s : KW W, wpList P l.toArray Q (l.drop n) a' s.w) l1 a1 := by
    intro l1
    induction l1 with
    | nil => intro a1 h1 s; exact (h1 s.w (M.keep s.keep)).out
    | cons o l1 ih =>
      intro a1 h1
      unfold wpK at h1
      unfold wpK
      split
      · rename_i hw
        rw [if_pos hw] at h1
        obtain ⟨v, h2, h3⟩ := h1
        exact ⟨v, h2, ih _ h3⟩
      · rename_i hw
        rw [if_neg hw] at h1
        exact ih _ h1
  exact key _ _ h

/-- The operations that make blocks: where the value goes, which it is, what the block holds. -/
def AllocsAt (P : Program) : List Oper → List (Tmp × (Nat → Value) × Obj) → Prop
  | _, [] => True
  | [], _ :: _ => False
  | o :: l, (d, v, Z) :: zs => o.dst = some d ∧ o.guard = none ∧ (∀ a w, (execOp (Act.eval a) o).run P w = .ok (.value (v w.heap.size)) (w.alloc Z)) ∧ AllocsAt P l zs

def AllG : List (Tmp × (Nat → Value) × Obj) → (List Nat → Prop) → Prop
  | [], K => K []
  | _ :: zs, K => ∀ g, AllG zs fun gs => K (g :: gs)

theorem AllG.at_ : ∀ (zs : List (Tmp × (Nat → Value) × Obj)) (K : List Nat → Prop), AllG zs K → ∀ gs : List Nat, gs.length = zs.length → K gs
  | [], K, h, [], _ => h
  | _ :: zs, K, h, g :: gs, e => AllG.at_ zs _ (h g) gs (by simpa using e)
  | [], _, _, _ :: _, e => by simp at e
  | _ :: _, _, _, [], e => by simp at e

def blksOf : List (Tmp × (Nat → Value) × Obj) → List Nat → List Blk
  | (_, _, Z) :: zs, g :: gs => ⟨g, Z⟩ :: blksOf zs gs
  | _, _ => []
def putsOf : List (Tmp × (Nat → Value) × Obj) → List Nat → Act → Act
  | (d, v, _) :: zs, g :: gs, a => putsOf zs gs (a.put (some d) (v g))
  | _, _, a => a

theorem allocsAt_get : ∀ (l : List Oper) (zs : List (Tmp × (Nat → Value) × Obj)), AllocsAt P l zs → ∀ (j : Nat) (z : Tmp × (Nat → Value) × Obj), zs[j]? = some z → ∃ o, l[j]? = some o ∧ o.dst = some z.1 ∧ o.guard = none ∧ ∀ a w, (execOp (Act.eval a) o).run P w = .ok (.value (z.2.1 w.heap.size)) (w.alloc z.2.2)
  | _, [], _, j, z, h => by simp at h
  | [], _ :: _, h, _, _, _ => h.elim
  | o :: l, (d, T, k) :: zs, h, 0, z, e => by
    simp at e
    subst e
    exact ⟨o, rfl, h.1, h.2.1, h.2.2.1⟩
  | o :: l, (d, T, k) :: zs, h, j + 1, z, e => by
    obtain ⟨o', h1, h2⟩ := allocsAt_get l zs h.2.2.2 j z (by simpa using e)
    exact ⟨o', by simpa using h1, h2⟩

theorem putE_of (ds : Nat → Option Tmp) (vs : Nat → Nat → Value) : ∀ (zs : List (Tmp × (Nat → Value) × Obj)) (gs : List Nat) (n : Nat) (a : Act), gs.length = zs.length → (∀ j z, zs[j]? = some z → ds (n + j) = some z.1 ∧ vs (n + j) = z.2.1) → putE ds vs ((List.range' n zs.length).zip gs) a = putsOf zs gs a
  | [], [], n, a, _, _ => rfl
  | (d, T, k) :: zs, g :: gs, n, a, e, h => by
    have h0 := h 0 (d, T, k) rfl
    rw [Nat.add_zero] at h0
    show putE ds vs ((List.range' (n + 1) zs.length).zip gs) (a.put (ds n) (vs n g)) = _
    rw [h0.1, h0.2]
    exact putE_of ds vs zs gs (n + 1) _ (by simpa using e) fun j z hz => by
      have := h (j + 1) z (by simpa using hz)
      rwa [show n + (j + 1) = n + 1 + j by omega] at this
  | [], _ :: _, _, _, e, _ => by simp at e
  | _ :: _, [], _, _, e, _ => by simp at e

theorem doneE_of : ∀ (gs : List Nat) (n : Nat) (d : Array Bool), doneE ((List.range' n gs.length).zip gs) d = (List.range' n gs.length).foldl (fun d i => d.setIfInBounds i true) d
  | [], _, _ => rfl
  | _ :: gs, n, d => doneE_of gs (n + 1) (d.setIfInBounds n true)

theorem blks_mem : ∀ (zs : List (Tmp × (Nat → Value) × Obj)) (gs : List Nat) (n : Nat) (Zs : Nat → Obj), (∀ j z, zs[j]? = some z → Zs (n + j) = z.2.2) → ∀ b ∈ blksOf zs gs, ∃ j, (j, b.g) ∈ (List.range' n zs.length).zip gs ∧ b.Z = Zs j
  | [], _, _, _, _, b, h => by simp [blksOf] at h
  | _ :: _, [], _, _, _, b, h => by simp [blksOf] at h
  | (d, T, k) :: zs, g :: gs, n, Zs, hZ, b, h => by
    simp only [blksOf, List.mem_cons] at h
    rcases h with rfl | h
    · have h0 := hZ 0 (d, T, k) rfl
      exact ⟨n, by simp [List.range'], by simpa using h0.symm⟩
    · obtain ⟨j, h1, h2⟩ := blks_mem zs gs (n + 1) Zs (fun j z hz => by
        have := hZ (j + 1) z (by simpa using hz)
        rwa [show n + (j + 1) = n + 1 + j by omega] at this) b h
      refine ⟨j, ?_, h2⟩
      simp only [List.length_cons, List.range'_succ, List.zip_cons_cons, List.mem_cons]
      exact .inr h1
theorem blks_g : ∀ (zs : List (Tmp × (Nat → Value) × Obj)) (gs : List Nat), gs.length = zs.length → (blksOf zs gs).map Blk.g = gs
  | [], [], _ => rfl
  | (d, T, k) :: zs, g :: gs, e => by simp [blksOf, blks_g zs gs (by simpa using e)]
  | [], _ :: _, e => by simp at e
  | _ :: _, [], e => by simp at e

/-- The variables that were made, in the order of the text. -/
theorem sorted_of {E : List (Nat × Nat)} {n k : Nat} (hnd : (E.map Prod.fst).Nodup) (hin : ∀ p ∈ E, n ≤ p.1 ∧ p.1 < n + k) (hlen : E.length = k) : ∃ gs : List Nat, gs.length = k ∧ E.Perm ((List.range' n k).zip gs) := by
  have hex : ∀ j ∈ List.range' n k, ∃ g, (j, g) ∈ E := by
    intro j hj
    refine Classical.byContradiction fun hno => ?_
    have hni : j ∉ E.map Prod.fst := fun h => by
      obtain ⟨p, hp, rfl⟩ := List.mem_map.1 h
      exact hno ⟨p.2, hp⟩
    have hnd2 : (j :: E.map Prod.fst).Nodup := List.nodup_cons.2 ⟨hni, hnd⟩
    have hsub : (j :: E.map Prod.fst) ⊆ List.range' n k := fun x hx => by
      rcases List.mem_cons.1 hx with rfl | hx
      · exact hj
      · obtain ⟨p, hp, rfl⟩ := List.mem_map.1 hx
        rw [List.mem_range'_1]
        exact hin p hp
    have := hnd2.length_le_of_subset hsub
    simp at this
    omega
  have hch : ∀ l : List Nat, (∀ j ∈ l, ∃ g, (j, g) ∈ E) → ∃ gs : List Nat, gs.length = l.length ∧ ∀ p ∈ l.zip gs, p ∈ E := by
    intro l
    induction l with
    | nil => intro _; exact ⟨[], rfl, by simp⟩
    | cons j l ih =>
      intro h
      obtain ⟨g, hg⟩ := h j (by simp)
      obtain ⟨gs, h1, h2⟩ := ih fun i hi => h i (by simp [hi])
      exact ⟨g :: gs, by simp [h1], fun p hp => by
        simp only [List.zip_cons_cons, List.mem_cons] at hp
        rcases hp with rfl | hp
        · exact hg
        · exact h2 p hp⟩
  obtain ⟨gs, h1, h2⟩ := hch _ hex
  have hl : gs.length = k := by simpa using h1
  refine ⟨gs, hl, ?_⟩
  have hz : ((List.range' n k).zip gs).map Prod.fst = List.range' n k := by
    rw [List.map_fst_zip]
    simp [hl]
  have hndz : ((List.range' n k).zip gs).Nodup := by
    have : (((List.range' n k).zip gs).map Prod.fst).Nodup := by
      rw [hz]
      exact List.nodup_range'
    exact nodup_of_map this
  have hndE : E.Nodup := nodup_of_map hnd
  refine (List.perm_ext_iff_of_nodup hndE hndz).2 fun p => ⟨fun hp => ?_, h2 p⟩
  have h3 : p.1 ∈ ((List.range' n k).zip gs).map Prod.fst := by
    rw [hz, List.mem_range'_1]
    exact hin p hp
  obtain ⟨q, hq, he⟩ := List.mem_map.1 h3
  rw [← fst_one hnd (h2 q hq) hp he]
  exact hq

/-- A region that draws, with calls, that makes these variables at times left open, and a tail in the text's order. -/
theorem rg_allocs {id : Nat} {l : List Oper} (M : Mem c L W) (n : Nat) (zs : List (Tmp × (Nat → Value) × Obj)) (hm : P.follows .mixedOrders = true) (hB : lexAllocsB .any l.toArray n (n + zs.length) = true) (hA : AllocsAt P (l.drop n) zs) (hds : (zs.map (·.1)).Nodup)
    (h0 : KL P l.toArray W (fun a' => ∀ w', AllG zs fun gs => Mem c (L ++ blksOf zs gs) w' → PL P l.toArray Q (l.drop (n + zs.length)) (putsOf zs gs a') w') (l.take n) a) : (Code.region id l.toArray true).wp P Q a W := by
  have h := h0.out
  simp only [lexAllocsB, Bool.and_eq_true, decide_eq_true_eq] at hB
  obtain ⟨⟨⟨⟨⟨⟨hsel, hn⟩, hnm⟩, hs⟩, hc⟩, hfr⟩, hlex⟩ := hB
  have hn' : n + zs.length < l.length := by simpa using hn
  have htl : (l.take n).length = n := by simp; omega
  have hdl : (l.drop (n + zs.length)).length = l.toArray.size - (n + zs.length) := by simp
  have inv : HeadInv .any l.toArray (n + zs.length) (Array.replicate l.toArray.size false) :=
    ⟨by simp, fun j oj _ hl => (by rw [getD_replicate_false] at hl; cases hl), fun t _ ht => getD_in (by simpa using ht) (getD_replicate_false _ _)⟩
  have H := HeadM.lex (md := .any) (g := l.toArray.size - (n + zs.length)) hsel hs hc hn hnm (l.take n) 0 _ a (fun j hj => by rw [htl] at hj; simp [hj]) (by simpa using htl) inv (by rw [htl]; exact hlex) h
  refine wp_region_any hm ?_
  have hget := allocsAt_get _ _ hA
  have hdsj : ∀ j z, zs[j]? = some z → (fun i => (zs[i - n]?).map (·.1)) (n + j) = some z.1 ∧ (fun i => ((zs[i - n]?).map (·.2.1)).getD (fun _ => undef)) (n + j) = z.2.1 := fun j z hz => by
    simp only
    rw [show n + j - n = j by omega, hz]
    exact ⟨rfl, rfl⟩
  have hZsj : ∀ j z, zs[j]? = some z → (fun i => ((zs[i - n]?).map fun z => z.2.2).getD (.cells #[] 0)) (n + j) = z.2.2 := fun j z hz => by
    simp only
    rw [show n + j - n = j by omega, hz]
    rfl
  have H2 := HeadM.any (Q := Q) (g := l.toArray.size - (n + zs.length)) (L := fun d a' => (Region.ready .any l.toArray d = List.range' n (n + zs.length - n) ∧ Region.seqB .any l.toArray (l.toArray.size - (n + zs.length)) (n + zs.length) (setR n (n + zs.length) d) = true) ∧ ∀ w', AllG zs fun gs => Mem c (L ++ blksOf zs gs) w' → PL P l.toArray Q (l.drop (n + zs.length)) (putsOf zs gs a') w') (ds := fun i => (zs[i - n]?).map (·.1)) (vs := fun i => ((zs[i - n]?).map (·.2.1)).getD (fun _ => undef)) (Zs := fun i => ((zs[i - n]?).map fun z => z.2.2).getD (.cells #[] 0)) hsel hs hc hn hnm hfr
    (fun j h1 h2 => by
      have hz : zs[j - n]? = some (zs[j - n]'(by omega)) := List.getElem?_eq_getElem _
      obtain ⟨o, ho, hd, hg, hr⟩ := hget (j - n) _ hz
      refine ⟨o, ?_, ?_, hg, ?_⟩
      · rw [List.getElem?_drop, show n + (j - n) = j by omega] at ho
        simpa using ho
      · rw [hd]
        simp only [hz, Option.map_some]
      · intro a w
        rw [hr a w]
        simp only [hz, Option.map_some, Option.getD_some])
    (fun d a' hL => by simpa using hL.1.1)
    (fun d a' hL E w1 hnd hin hlen hK => by
      obtain ⟨gs, hgl, hp⟩ := sorted_of (n := n) (k := zs.length) hnd (fun p hp => by have := hin p hp; omega) (by omega)
      have hseq := hL.1.2
      have e1 : doneE E d = setR n (n + zs.length) d := by
        unfold doneE setR
        rw [hp.foldl_eq' (fun x _ y _ z => by
          by_cases hxy : x.1 = y.1
          · rw [hxy]
          · exact Array.setIfInBounds_comm _ _ hxy)]
        have := doneE_of gs n d
        unfold doneE at this
        rw [hgl] at this
        rw [this]
        congr 2
        omega
      have e2 : putE (fun i => (zs[i - n]?).map (·.1)) (fun i => ((zs[i - n]?).map (·.2.1)).getD (fun _ => undef)) E a' = putsOf zs gs a' := by
        rw [← putE_of (fun i => (zs[i - n]?).map (·.1)) (fun i => ((zs[i - n]?).map (·.2.1)).getD (fun _ => undef)) zs gs n a' hgl hdsj]
        unfold putE
        refine hp.foldl_eq' (fun x hx y hy z => ?_) _
        by_cases hxy : x = y
        · rw [hxy]
        · refine (Act.put_comm z _ _ fun t ht => ?_)
          intro ht2
          have hx1 := hin x hx
          have hy1 := hin y hy
          have zx : zs[x.1 - n]? = some (zs[x.1 - n]'(by omega)) := List.getElem?_eq_getElem _
          have zy : zs[y.1 - n]? = some (zs[y.1 - n]'(by omega)) := List.getElem?_eq_getElem _
          simp only [zx, zy, Option.map_some, Option.some.injEq] at ht ht2
          have hne : x.1 ≠ y.1 := fun e => hxy (fst_one hnd hx hy e)
          rcases Nat.lt_or_gt_of_ne hne with hlt | hlt
          · exact absurd (by simp [zx, zy, ht, ht2]) (nodup_ne hds (i := x.1 - n) (j := y.1 - n) (by omega) (by simp; omega))
          · exact absurd (by simp [zx, zy, ht, ht2]) (nodup_ne hds (i := y.1 - n) (j := x.1 - n) (by omega) (by simp; omega))
      have hM : Mem c (L ++ blksOf zs gs) w1 := by
        refine M.news hK.keep (fun b hb => ?_) (fun b hb => ?_) ?_
        · obtain ⟨j, h1, h2⟩ := blks_mem zs gs n (fun i => ((zs[i - n]?).map fun z => z.2.2).getD (.cells #[] 0)) hZsj b hb
          rw [h2]
          exact hK.at_ _ (hp.mem_iff.2 h1)
        · obtain ⟨j, h1, h2⟩ := blks_mem zs gs n (fun i => ((zs[i - n]?).map fun z => z.2.2).getD (.cells #[] 0)) hZsj b hb
          exact hK.ge _ (hp.mem_iff.2 h1)
        · rw [blks_g zs gs hgl]
          have h3 := hK.nodup
          rw [(hp.map Prod.snd).nodup_iff, List.map_snd_zip (by simp [hgl])] at h3
          exact h3
      have htail := (AllG.at_ zs _ (hL.2 w1) gs hgl hM).out
      have hgo := wpAny_of_seq (md := .any) (Q' := Q) (l.drop (n + zs.length)) (n + zs.length) _ _ w1 (fun j => by simp [List.getElem?_drop]) (by rw [hdl]; exact hseq) htail
      rw [hdl] at hgo
      rw [e1, e2]
      exact hgo)
    (n + zs.length) n [] (Array.replicate l.toArray.size false) a W.drew (by simp) (by simp) (by simp) (by simp) (by simp) inv (by simpa [htl] using H) ⟨(Below.refl _ _).drew, by simp, by simp, by simp, by simp⟩
  rw [show n + zs.length + (l.toArray.size - (n + zs.length)) = l.toArray.size by omega] at H2
  exact H2
end

end Go.Proofs.YtenafinbaanicaaDoor
