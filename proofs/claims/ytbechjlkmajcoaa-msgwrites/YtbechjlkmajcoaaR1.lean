/- Blocks that a step may change, whatever they are; a text added behind a slice; messages as structures. -/
import Derived.Test.YtbechjlkmajcoaaR0
import Derived.Lib.UnsafeStr
import Derived.Lib.Builder
namespace Go.Proofs.Ytbechjlkmajcoaa
open Go.RowKit

/-- A message. -/
structure Mg where
  ty : Int
  fr : ByteArray
  tq : ByteArray
  ix : Int
  pe : Int
  ct : Int
  ba : Int
  ve : Int
  tx : ByteArray
  ev : Bool
  eh : Int
  el : Int
  ep : Int
  co : Int
  tt : ByteArray
  da : ByteArray
  sg : ByteArray
/-- What a field holds. -/
structure Vl where
  n : Int
  t : ByteArray
  v : Bool
  h : Int
  l : Int
  p : Int
def mgL (m : Mg) : Nat → Value := (ls [.int .u8 m.ty, .string m.fr, .string m.tq, .int .u32 m.ix, .int .u32 m.pe, .int .u64 m.ct, .int .u64 m.ba, .int .u64 m.ve, .string m.tx, .bool (m.ev), .int .u64 m.eh, .int .u64 m.el, .int .u16 m.ep, .int .u16 m.co, .string m.tt, .string m.da, .string m.sg])
def vlL (v : Vl) : Nat → Value := (ls [.int .u64 v.n, .string v.t, .bool (v.v), .int .u64 v.h, .int .u64 v.l, .int .u16 v.p])
theorem Mem.startp2 {w : World} (h : Laid w) {g k : Nat} {Z Y : Obj} (hg : w.heap[g]? = some Z) (hk : w.heap[k]? = some Y) (hne : g ≠ k) : Mem ⟨w, [g, k]⟩ [⟨g, Z⟩, ⟨k, Y⟩] w := ⟨grown_refl _ _, by simpa using ⟨hg, hk⟩, by simp, by simpa using hne, h⟩
theorem ro_below2 {w w' : World} {g k : Nat} {Z Y : Obj} (h : Grw w w' [g, k]) (h0 : w.heap[g]? = some Z) (h1 : w'.heap[g]? = some Z) (k0 : w.heap[k]? = some Y) (k1 : w'.heap[k]? = some Y) : Below w.heap.size w w' := ⟨h.os, h.tape, h.output, h.size, fun x hx => by
  by_cases e : x = g
  · subst e
    rw [h0, h1]
  by_cases e2 : x = k
  · subst e2
    rw [k0, k1]
  · exact h.block x hx (by simp [e, e2])⟩

/-- What a step may leave of the blocks T. -/
structure OkT (w w' : World) (T T' : List Blk) : Prop where
  grw : Grw w w' (T.map Blk.g)
  at_ : ∀ b ∈ T', w'.heap[b.g]? = some b.Z
  nodup : (T'.map Blk.g).Nodup
  ge : ∀ b ∈ T', b.g ∈ T.map Blk.g ∨ w.heap.size ≤ b.g

theorem Mem.join {w : World} {L T : List Blk} {W : World} (M : Mem ⟨w, []⟩ L W) (hT : ∀ b ∈ T, w.heap[b.g]? = some b.Z) (hn : (T.map Blk.g).Nodup) : Mem ⟨w, T.map Blk.g⟩ (L ++ T) W where
  old := ⟨M.old.os, M.old.tape, M.old.output, M.old.size, fun k hk _ => M.old.block k hk (by simp)⟩
  at_ := fun b hb => by
    rcases List.mem_append.1 hb with hb | hb
    · exact M.at_ b hb
    · rw [M.old.block _ (Array.getElem?_eq_some_iff.1 (hT b hb)).1 (by simp)]
      exact hT b hb
  ge := fun b hb => by
    rcases List.mem_append.1 hb with hb | hb
    · rcases M.ge b hb with h | h
      · exact .inl h
      · simp at h
    · exact .inr (List.mem_map_of_mem hb)
  nodup := by
    rw [List.map_append, List.nodup_append]
    refine ⟨M.nodup, hn, fun x hx y hy e => ?_⟩
    obtain ⟨b, hb, rfl⟩ := List.mem_map.1 hx
    obtain ⟨d, hd, rfl⟩ := List.mem_map.1 hy
    rcases M.ge b hb with h | h
    · have h2 := (Array.getElem?_eq_some_iff.1 (hT d hd)).1
      have h3 : w.heap.size ≤ b.g := h
      omega
    · simp at h
  lay := M.lay

theorem Mem.putT {c : Ctx} {L T T' : List Blk} {W W' : World} (M : Mem c (L ++ T) W) (h : OkT W W' T T') : Mem c (L ++ T') W' where
  old := ⟨h.grw.os.trans M.old.os, h.grw.tape.trans M.old.tape, h.grw.output.trans M.old.output, Nat.le_trans M.old.size h.grw.size, fun k hk hr => by
    refine (h.grw.block k (Nat.lt_of_lt_of_le hk M.old.size) fun e => ?_).trans (M.old.block k hk hr)
    obtain ⟨b, hb, rfl⟩ := List.mem_map.1 e
    rcases M.ge b (List.mem_append_right _ hb) with h1 | h1
    · omega
    · exact hr h1⟩
  at_ := fun b hb => by
    rcases List.mem_append.1 hb with hb | hb
    · rw [h.grw.block _ (M.lt (List.mem_append_left _ hb)) fun e => ?_]
      · exact M.at_ b (List.mem_append_left _ hb)
      · have hn := M.nodup
        rw [List.map_append, List.nodup_append] at hn
        exact hn.2.2 _ (List.mem_map_of_mem hb) _ e rfl
    · exact h.at_ b hb
  ge := fun b hb => by
    rcases List.mem_append.1 hb with hb | hb
    · exact M.ge b (List.mem_append_left _ hb)
    · rcases h.ge b hb with h1 | h1
      · obtain ⟨d, hd, e⟩ := List.mem_map.1 h1
        rw [← e]
        exact M.ge d (List.mem_append_right _ hd)
      · exact .inl (Nat.le_trans M.old.size h1)
  nodup := by
    have hn := M.nodup
    rw [List.map_append, List.nodup_append] at hn ⊢
    refine ⟨hn.1, h.nodup, fun x hx y hy e => ?_⟩
    obtain ⟨d, hd, rfl⟩ := List.mem_map.1 hy
    rcases h.ge d hd with h1 | h1
    · exact hn.2.2 _ hx _ h1 e
    · obtain ⟨b, hb, rfl⟩ := List.mem_map.1 hx
      have := M.lt (List.mem_append_left _ hb)
      omega
  lay := M.lay

theorem Mem.tail {c : Ctx} {L T : List Blk} {W : World} (M : Mem c (L ++ T) W) : (∀ b ∈ T, W.heap[b.g]? = some b.Z) ∧ (T.map Blk.g).Nodup := ⟨fun b hb => M.at_ b (List.mem_append_right _ hb), by
  have hn := M.nodup
  rw [List.map_append, List.nodup_append] at hn
  exact hn.2.1⟩

/-- What comes of a whole call that began with the blocks T. -/
theorem Mem.okT {w : World} {L T T' : List Blk} {W : World} (M : Mem ⟨w, T.map Blk.g⟩ (L ++ T') W) : OkT w W T T' := ⟨M.old, M.tail.1, M.tail.2, fun b hb => (M.ge b (List.mem_append_right _ hb)).symm⟩

theorem okT_one {w w' : World} {g : Nat} {Z Z' : Obj} (h : Grw w w' [g]) (h1 : w'.heap[g]? = some Z') : OkT w w' [⟨g, Z⟩] [⟨g, Z'⟩] := ⟨h, by simpa using h1, by simp, by simp⟩
theorem okT_two {w w' : World} {g k : Nat} {Z Z' Y Y' : Obj} (h : Grw w w' [g, k]) (h1 : w'.heap[g]? = some Z') (h2 : w'.heap[k]? = some Y') (hne : g ≠ k) : OkT w w' [⟨g, Z⟩, ⟨k, Y⟩] [⟨g, Z'⟩, ⟨k, Y'⟩] := ⟨h, by simpa using ⟨h1, h2⟩, by simpa using hne, by simp⟩

section
variable {P : Program} {ops : Array Oper} {rest : List Oper} {o : Oper} {a : Act} {w : World} {c : Ctx} {L T : List Blk} {Q : Exit → Act → World → Prop}

/-- A call that changes the blocks T. -/
theorem pl_callT (M : Mem c (L ++ T) w) (hw : Region.wanted o (yielded ops a.tmps) = true) (d : Option Tmp) (hd : o.dst = d) (f : FuncId) (args : Array Value) (v : Value) (R : List Blk → Prop) (hrun : ∀ w, (execOp a.eval o).run P w = .ok (.enter f args) w)
    (hc : ∀ w, (∀ b ∈ T, w.heap[b.g]? = some b.Z) → (T.map Blk.g).Nodup → Calls P f args w fun e w' => e = .returned v ∧ ∃ T', R T' ∧ OkT w w' T T') (h : ∀ T' w', R T' → Mem c (L ++ T') w' → PL P ops Q rest (a.put d v) w') : PL P ops Q (o :: rest) a w :=
  pl_callq hw d hd f args hrun ((hc w M.tail.1 M.tail.2).mono fun _ w' ⟨he, T', hR, hk⟩ => ⟨v, he, h T' w' hR (M.putT hk)⟩)

/-- A call that changes two blocks. -/
theorem pl_call2 (M : Mem c L w) (hw : Region.wanted o (yielded ops a.tmps) = true) (d : Option Tmp) (hd : o.dst = d) (f : FuncId) (args : Array Value) (v : Value) (i j g k : Nat) (Z Y Z' Y' : Obj) (hi : L[i]? = some ⟨g, Z⟩) (hj : L[j]? = some ⟨k, Y⟩) (hrun : ∀ w, (execOp a.eval o).run P w = .ok (.enter f args) w)
    (hc : ∀ w, Mem c L w → Calls P f args w fun e w' => e = .returned v ∧ Grw w w' [g, k] ∧ w'.heap[g]? = some Z' ∧ w'.heap[k]? = some Y') (h : ∀ w', Mem c ((L.set i ⟨g, Z'⟩).set j ⟨k, Y'⟩) w' → PL P ops Q rest (a.put d v) w') : PL P ops Q (o :: rest) a w :=
  pl_callq hw d hd f args hrun ((hc w M).mono fun _ w' ⟨he, h1, h2, h3⟩ => ⟨v, he, h w' (M.put2 i j ⟨g, Z⟩ ⟨k, Y⟩ hi hj Z' Y' h1 h2 h3)⟩)

/-- A call that makes two blocks and tells where the first one is. -/
theorem pl_callm2 (M : Mem c L w) (hw : Region.wanted o (yielded ops a.tmps) = true) (d : Option Tmp) (hd : o.dst = d) (f : FuncId) (args : Array Value) (v : Nat → Value) (R : Nat → Nat → Obj → Obj → Prop) (hrun : ∀ w, (execOp a.eval o).run P w = .ok (.enter f args) w)
    (hc : ∀ w, Mem c L w → Calls P f args w fun e w' => ∃ g k Z Y, e = .returned (v g) ∧ R g k Z Y ∧ w.heap.size ≤ g ∧ w.heap.size ≤ k ∧ g ≠ k ∧ w'.heap[g]? = some Z ∧ w'.heap[k]? = some Y ∧ Below w.heap.size w w') (h : ∀ g k Z Y w', R g k Z Y → Mem c (L ++ [⟨g, Z⟩, ⟨k, Y⟩]) w' → PL P ops Q rest (a.put d (v g)) w') : PL P ops Q (o :: rest) a w :=
  pl_callq hw d hd f args hrun ((hc w M).mono fun _ w' ⟨g, k, Z, Y, he, hR, h1, h2, h3, h4, h5, hb⟩ => ⟨v g, he, h g k Z Y w' hR (M.news hb (by simpa using ⟨h4, h5⟩) (by simpa using ⟨h1, h2⟩) (by simpa using h3))⟩)

/-- A row of bytes, with room for cap of them; none of it is frozen. -/
structure SC (Z : Obj) (cap : Nat) (l : List Value) : Prop where
  ex : ∃ cs, Z = .cells cs 5 ∧ l.length ≤ cap ∧ cap ≤ cs.size ∧ ∀ i, i < l.length → cs[i]? = l[i]?
theorem SC.sb {Z : Obj} {cap : Nat} {l : List Value} (h : SC Z cap l) : SB Z cap l := by
  obtain ⟨cs, rfl, h1, h2, h3⟩ := h.ex
  exact ⟨cs, 5, (0, 0), rfl, h1, h2, h3, fun i _ => by simp⟩
theorem SC.sets {Z : Obj} {cap : Nat} {l : List Value} (h : SC Z cap l) (vs : List Value) (hr : l.length + vs.length ≤ cap) {W : World} {g : Nat} (hz : W.heap[g]? = some Z) : ∃ Z', (W.setCells g l.length vs).heap[g]? = some Z' ∧ SC Z' cap (l ++ vs) := by
  obtain ⟨cs, rfl, h1, h2, h3⟩ := h.ex
  obtain ⟨ds, e1, e2, e3⟩ := setCells_block g 5 (0, 0) vs W cs l.length hz
  refine ⟨_, e1, ⟨ds, rfl, by simpa using hr, by omega, fun i hi => ?_⟩⟩
  rw [List.length_append] at hi
  rw [e3 i]
  by_cases hl : l.length ≤ i
  · rw [if_pos (by omega), List.getElem?_append_right hl]
  · rw [if_neg (by omega), h3 i (by omega), List.getElem?_append_left (by omega)]
theorem byteCells_sb (s : ByteArray) : byteCells s = vs8 (sb s) := by
  unfold byteCells vs8 sb
  rw [List.map_map]
  rfl
end
section
variable {ops : Array Oper} {rest : List Oper} {o : Oper} {a : Act} {w : World} {c : Ctx} {L : List Blk} {Q : Exit → Act → World → Prop}

theorem info5 : ∃ i, Try.prog.info? 5 = some i ∧ i.zero = some (.int .u8 0) ∧ i.size = 1 ∧ i.bytes = 1 := by
  have h1 : (Try.prog.info? 5).map (·.zero) = some (some (.int .u8 0)) := by kernel_rfl
  have h2 : (Try.prog.info? 5).map (·.size) = some 1 := by kernel_rfl
  have h3 : (Try.prog.info? 5).map (·.bytes) = some 1 := by kernel_rfl
  cases h : Try.prog.info? 5 with
  | none => rw [h] at h2; cases h2
  | some i =>
    rw [h] at h1 h2 h3
    simp only [Option.map_some, Option.some.injEq] at h1 h2 h3
    exact ⟨i, rfl, h1, h2, h3⟩

/-- The bytes of a text are added behind the others, in the same row or in a new one. -/
theorem pl_appS (M : Mem c L w) (hw : Region.wanted o (yielded ops a.tmps) = true) (d : Option Tmp) (hd : o.dst = d) (i g n cap : Nat) (Z : Obj) (l : List Value) (hi : L[i]? = some ⟨g, Z⟩) (hs : SC Z cap l) (hn : l.length = n) (s : ByteArray) (hle : n + s.size < 1000000)
    (hrun : ∀ w, (execOp a.eval o).run Try.prog w = (do pure (Next.value (← Builtin.append_ #[49, 9] 49 #[.slice (some ⟨g, 0, none⟩) n cap, .string s]))).run Try.prog w)
    (h : ∀ g' cap' Z' w', SC Z' cap' (l ++ vs8 (sb s)) → Mem c (L.eraseIdx i ++ [⟨g', Z'⟩]) w' → PL Try.prog ops Q rest (a.put d (.slice (some ⟨g', 0, none⟩) (n + s.size) cap')) w') : PL Try.prog ops Q (o :: rest) a w := by
  obtain ⟨inf, i1, i2, i3, i4⟩ := info5
  have hil := (List.getElem?_eq_some_iff.1 hi).1
  have hsrc : Src Try.prog inf.size 9 (.string s) s.size (vs8 (sb s)) w := by
    rw [i3, ← byteCells_sb]
    exact Src.ofString w Try.underlying9 s
  have hvl : (vs8 (sb s)).length = s.size := by rw [vs8_length, sb_length]
  subst hn
  by_cases hroom : l.length + s.size ≤ cap
  · obtain ⟨Z', h2, h3⟩ := hs.sets (vs8 (sb s)) (by rw [hvl]; exact hroom) (M.get i hi)
    obtain ⟨cs, hZ, h4, h5, h6⟩ := hs.ex
    have hg := M.get i hi
    rw [hZ] at hg
    have hr := run_append_room_src (P := Try.prog) w 49 9 49 5 inf Try.underlying49 i1 g 0 l.length cap (.string s) s.size (vs8 (sb s)) hsrc hroom (fun j hj => by
        rw [i3, Nat.mul_one, Nat.zero_add]
        unfold World.cell?
        rw [hg]
        simp
        omega) (fun j hj => by
        unfold World.frozen?
        rw [hg]
        simp)
    rw [i3, Nat.mul_one, Nat.zero_add] at hr
    refine pl_to hw d hd _ _ ?_ (h g cap Z' _ h3 ((M.put i ⟨g, Z⟩ hi Z' (grown_setCells _ _ _ _) h2).perm (set_perm L i _ hil)))
    rw [hrun]
    simp only [Sem.run_bind, hr, Result.andThen_ok, Sem.run_pure]
  · have hold := run_firstCells_some (P := Try.prog) w.drew inf.size l.length ⟨g, 0, none⟩ l.length cap l (by rw [i3, Nat.mul_one]) (fun k u hu => by
      rw [add_at, Nat.zero_add]
      exact hs.sb.cell (M.drew.get i hi) hu)
    have hcap := hs.sb.le
    have hr := run_append_grow_src (P := Try.prog) w 49 9 49 5 inf (.int .u8 0) Try.underlying49 i1 i2 (some ⟨g, 0, none⟩) l.length cap l hold (.string s) s.size (vs8 (sb s)) hsrc (by omega) (by omega) (by rw [i4]; exact growslice_fits (by omega) (by omega))
    have hge := grownCap_ge w (l.length + s.size) cap 5
    generalize grownCap w (l.length + s.size) cap 5 = nc at hr hge
    have hr2 : (execOp a.eval o).run Try.prog w = .ok (.value (.slice (some ⟨w.heap.size, 0, none⟩) (l.length + s.size) nc)) (w.drew.alloc (.cells ((l ++ vs8 (sb s)).toArray ++ Builtin.zeroCells (Value.int .u8 0).cells (nc - (l.length + s.size))) 5)) := by
      rw [hrun]
      simp only [Sem.run_bind, hr, Result.andThen_ok, Sem.run_pure]
    refine pl_to hw d hd _ _ hr2 (h w.heap.size nc (.cells ((l ++ vs8 (sb s)).toArray ++ Builtin.zeroCells (Value.int .u8 0).cells (nc - (l.length + s.size))) 5) _ ⟨_, rfl, by rw [List.length_append, hvl]; exact hge, ?_, fun k hk => ?_⟩ ?_)
    · simp only [Array.size_append, List.size_toArray, List.length_append, hvl, size_zeroCells]
      rw [show (Value.int .u8 0).cells.size = 1 from rfl, Nat.mul_one]
      omega
    · rw [Array.getElem?_append_left (by simpa using hk)]
      simp
    · refine (M.drew.new w.heap.size _ (new_below _ _) (heap_alloc_new w.drew _) (Nat.le_refl _)).drop ?_
      exact (List.eraseIdx_sublist L i).append (List.Sublist.refl _)

theorem grown_freeze (W : World) (g n : Nat) : Grw W (W.freeze ⟨g, 0, none⟩ n) [g] := by
  unfold World.freeze
  split
  · exact grown_refl _ _
  · exact ⟨rfl, rfl, rfl, by simp, fun k hk hr => by
      simp only [Array.getElem?_modify]
      rw [if_neg (fun e => hr (by simp [e]))]⟩
theorem freeze_there (W : World) (g n : Nat) {Z : Obj} (h : W.heap[g]? = some Z) : ∃ Z', (W.freeze ⟨g, 0, none⟩ n).heap[g]? = some Z' := by
  have h1 := (Array.getElem?_eq_some_iff.1 h).1
  have h2 : g < (W.freeze ⟨g, 0, none⟩ n).heap.size := by
    unfold World.freeze
    split
    · exact h1
    · simpa using h1
  exact ⟨_, Array.getElem?_eq_getElem h2⟩
/-- A row of bytes as a text. -/
theorem pl_ustr (M : Mem c L w) (hw : Region.wanted o (yielded ops a.tmps) = true) (d : Option Tmp) (hd : o.dst = d) (i g n cap : Nat) (Z : Obj) (s : ByteArray) (hi : L[i]? = some ⟨g, Z⟩) (hs : SC Z cap (vs8 (sb s))) (hn : s.size = n) (h0 : n ≠ 0) (hle : n < 1000000)
    (hrun : ∀ w, (execOp a.eval o).run Try.prog w = (do pure (Next.value (← Builtin.unsafeString_ #[90, 3] 9 #[.pointer (some ⟨g, 0, none⟩), .int .i64 (n : Int)]))).run Try.prog w)
    (h : ∀ Z' w', Mem c (L.set i ⟨g, Z'⟩) w' → PL Try.prog ops Q rest (a.put d (.string s)) w') : PL Try.prog ops Q (o :: rest) a w := by
  subst hn
  have hg := M.get i hi
  obtain ⟨cs, hZ, h4, h5, h6⟩ := hs.ex
  have hln : s.data.toList.length = s.size := by simp
  have hr := Lib.run_unsafeString_row (P := Try.prog) w 90 3 9 5 Try.underlying90 (by kernel_rfl) g cs.size (by rw [hZ] at hg; simp [World.shape?, hg]) s.data.toList (by
      intro e
      rw [e] at hln
      simp at hln
      omega) (by rw [vs8_length, sb_length] at h4; omega) (by omega) (fun j x hx => by
      rw [add_at, Nat.zero_add]
      refine hs.sb.cell hg ?_
      unfold vs8 sb
      rw [List.getElem?_map, List.getElem?_map, hx]
      rfl)
  rw [hln] at hr
  have es : (⟨s.data.toList.toArray⟩ : ByteArray) = s := by simp
  rw [es] at hr
  obtain ⟨Z', hZ'⟩ := freeze_there w g s.size hg
  refine pl_to hw d hd _ _ ?_ (h Z' _ (M.put i ⟨g, Z⟩ hi Z' (grown_freeze _ _ _) hZ'))
  rw [hrun]
  simp only [Sem.run_bind, hr, Result.andThen_ok, Sem.run_pure]
end

end Go.Proofs.Ytbechjlkmajcoaa
