/- Blocks that a call may change; slices of words that are made, cleared, copied, added to. -/
import Derived.Test.YtpcdnagonpnpmaaQ0
import Derived.Lib.SliceRun
namespace Go.Proofs.Ytpcdnagonpnpmaa
open Go.RowKit

section
variable {P : Program} {ops : Array Oper} {o o2 o3 : Oper} {a : Act} {w : World} {Q : Exit → Act → World → Prop} {S : World → Prop} {n fuel : Nat} {listed : Array Bool}
theorem hl_name (h : ∀ H : Nat → Array Bool → Act → World → Prop, (∀ f l a w, H f l a w → HL P ops Q S n f l a w) → (∀ f l a w, HL P ops Q S n f l a w → H f l a w) → H fuel listed a w) : HL P ops Q S n fuel listed a w := h _ (fun _ _ _ _ h => h) (fun _ _ _ _ h => h)
/-- Number i or number j may come up. -/
theorem hl_two (i j : Nat) (hin : i < n) (hjn : j < n) (hr : Region.ready .any ops listed = [i, j]) (hi : ops.toList[i]? = some o) (hj : ops.toList[j]? = some o2)
    (h : PL P ops (Exit.then (fun a' w' => S w' ∧ HL P ops Q S n fuel (listed.setIfInBounds i true) a' w') Q) [o] a w)
    (h2 : PL P ops (Exit.then (fun a' w' => S w' ∧ HL P ops Q S n fuel (listed.setIfInBounds j true) a' w') Q) [o2] a w) : HL P ops Q S n (fuel + 1) listed a w := by
  refine ⟨fun hQ hB inv => ⟨fun h0 => (by rw [hr] at h0; cases h0), fun m hm => ?_⟩⟩
  have hm' := hm
  rw [hr] at hm
  rcases List.mem_cons.1 hm with rfl | hm
  · exact wpOp_mono (fun a' w' h3 => ⟨fun _ => h3.1, h3.2.out hQ hB (inv.set hm' hin)⟩) (wpOp_one (by rw [← Array.getElem?_toList]; exact hi) h.out)
  · obtain rfl := List.mem_singleton.1 hm
    exact wpOp_mono (fun a' w' h3 => ⟨fun _ => h3.1, h3.2.out hQ hB (inv.set hm' hjn)⟩) (wpOp_one (by rw [← Array.getElem?_toList]; exact hj) h2.out)
/-- Number i, number j or number k may come up. -/
theorem hl_three (i j k : Nat) (hin : i < n) (hjn : j < n) (hkn : k < n) (hr : Region.ready .any ops listed = [i, j, k]) (hi : ops.toList[i]? = some o) (hj : ops.toList[j]? = some o2) (hk : ops.toList[k]? = some o3)
    (h : PL P ops (Exit.then (fun a' w' => S w' ∧ HL P ops Q S n fuel (listed.setIfInBounds i true) a' w') Q) [o] a w)
    (h2 : PL P ops (Exit.then (fun a' w' => S w' ∧ HL P ops Q S n fuel (listed.setIfInBounds j true) a' w') Q) [o2] a w)
    (h3 : PL P ops (Exit.then (fun a' w' => S w' ∧ HL P ops Q S n fuel (listed.setIfInBounds k true) a' w') Q) [o3] a w) : HL P ops Q S n (fuel + 1) listed a w := by
  refine ⟨fun hQ hB inv => ⟨fun h0 => (by rw [hr] at h0; cases h0), fun m hm => ?_⟩⟩
  have hm' := hm
  rw [hr] at hm
  rcases List.mem_cons.1 hm with rfl | hm
  · exact wpOp_mono (fun a' w' h3 => ⟨fun _ => h3.1, h3.2.out hQ hB (inv.set hm' hin)⟩) (wpOp_one (by rw [← Array.getElem?_toList]; exact hi) h.out)
  rcases List.mem_cons.1 hm with rfl | hm
  · exact wpOp_mono (fun a' w' h3 => ⟨fun _ => h3.1, h3.2.out hQ hB (inv.set hm' hjn)⟩) (wpOp_one (by rw [← Array.getElem?_toList]; exact hj) h2.out)
  · obtain rfl := List.mem_singleton.1 hm
    exact wpOp_mono (fun a' w' h3 => ⟨fun _ => h3.1, h3.2.out hQ hB (inv.set hm' hkn)⟩) (wpOp_one (by rw [← Array.getElem?_toList]; exact hk) h3.out)
end
section
variable {a : Act} {w : World} {Q : Exit → Act → World → Prop}
theorem au_block_out {id i : Nat} (hn : i ≠ id) (h : Q (.exit i) a w) : Exit.inBlock id Q (.exit i) a w := by
  unfold Exit.inBlock
  simp only [hn, if_false]
  exact h
end
theorem cut_at {P : Program} {x : Code} {K I : Act → World → Prop} {Q : Exit → Act → World → Prop} {a : Act} {w : World} (h1 : x.wp P (Exit.then I Q) a w) (h2 : ∀ a w, I a w → K a w) : x.wp P (Exit.then K Q) a w :=
  wp_mono h1 fun e a w h => by
    cases e <;> first | exact h2 _ _ h | exact h
theorem sz_mk (a : Array UInt8) : (⟨a⟩ : ByteArray).size = a.size := rfl
theorem if_max (x y : Int) : (if y > x then y else x) = max x y := by
  rw [Int.max_def]
  split <;> split <;> omega
theorem run_shlV {P : Program} {a : Act} {o : Oper} (t rt : TypeId) (x y : Operand) (ho : o.op = .binOp .shl t x y rt) (k : Int) (ky : IntKind) (m : Nat) (hx : a.eval x = .int .u64 k) (hy : a.eval y = .int ky (m : Int)) (w : World) :
    (execOp a.eval o).run P w = .ok (.value (.int .u64 (sl k m))) w := by
  by_cases hm : m ≤ 64
  · exact run_shlU t rt x y ho k ky m hx hy hm w
  · have e : IntKind.wrap .u64 (k * 2 ^ min m 64) = IntKind.wrap .u64 (k * 2 ^ m) := by
      obtain ⟨n, rfl⟩ : ∃ n, m = n + 64 := ⟨m - 64, by omega⟩
      rw [IntKind.wrap_u64, IntKind.wrap_u64, Nat.min_eq_right (by omega), Int.pow_add, ← Int.mul_assoc]
      have : (2 : Int) ^ 64 = 18446744073709551616 := rfl
      rw [this, Int.mul_emod_left, Int.mul_emod_left]
    unfold execOp sl
    rw [← e]
    simp [ho, hx, hy, eqGuard, binOp, Op.shift, IntKind.bits]
    intro h
    omega
theorem run_shrV {P : Program} {a : Act} {o : Oper} (t rt : TypeId) (x y : Operand) (ho : o.op = .binOp .shr t x y rt) (k : Int) (ky : IntKind) (m : Nat) (hx : a.eval x = .int .u64 k) (hy : a.eval y = .int ky (m : Int)) (hm : m ≤ 64) (w : World) :
    (execOp a.eval o).run P w = .ok (.value (.int .u64 (sr k m))) w := run_shrU t rt x y ho k ky m hx hy hm w
theorem Mem.startp2 {w : World} (h : Laid w) {g k : Nat} {Z Y : Obj} (hg : w.heap[g]? = some Z) (hk : w.heap[k]? = some Y) (hne : g ≠ k) : Mem ⟨w, [g, k]⟩ [⟨g, Z⟩, ⟨k, Y⟩] w := ⟨grown_refl _ _, by simpa using ⟨hg, hk⟩, by simp, by simpa using hne, h⟩
theorem ro_below2 {w w' : World} {g k : Nat} {Z Y : Obj} (h : Grw w w' [g, k]) (h0 : w.heap[g]? = some Z) (h1 : w'.heap[g]? = some Z) (k0 : w.heap[k]? = some Y) (k1 : w'.heap[k]? = some Y) : Below w.heap.size w w' := ⟨h.os, h.tape, h.output, h.size, fun x hx => by
  by_cases e : x = g
  · subst e
    rw [h0, h1]
  by_cases e2 : x = k
  · subst e2
    rw [k0, k1]
  · exact h.block x hx (by simp [e, e2])⟩

/-- What a step may leave of the blocks T. -/
structure OkT (w w' : World) (T T' : List Blk) : Prop where
  grw : Grw w w' (T.map Blk.g)
  at_ : ∀ b ∈ T', w'.heap[b.g]? = some b.Z
  nodup : (T'.map Blk.g).Nodup
  ge : ∀ b ∈ T', b.g ∈ T.map Blk.g ∨ w.heap.size ≤ b.g

theorem Mem.join {w : World} {L T : List Blk} {W : World} (M : Mem ⟨w, []⟩ L W) (hT : ∀ b ∈ T, w.heap[b.g]? = some b.Z) (hn : (T.map Blk.g).Nodup) : Mem ⟨w, T.map Blk.g⟩ (L ++ T) W where
  old := ⟨M.old.os, M.old.tape, M.old.output, M.old.size, fun k hk _ => M.old.block k hk (by simp)⟩
  at_ := fun b hb => by
    rcases List.mem_append.1 hb with hb | hb
    · exact M.at_ b hb
    · rw [M.old.block _ (Array.getElem?_eq_some_iff.1 (hT b hb)).1 (by simp)]
      exact hT b hb
  ge := fun b hb => by
    rcases List.mem_append.1 hb with hb | hb
    · rcases M.ge b hb with h | h
      · exact .inl h
      · simp at h
    · exact .inr (List.mem_map_of_mem hb)
  nodup := by
    rw [List.map_append, List.nodup_append]
    refine ⟨M.nodup, hn, fun x hx y hy e => ?_⟩
    obtain ⟨b, hb, rfl⟩ := List.mem_map.1 hx
    obtain ⟨d, hd, rfl⟩ := List.mem_map.1 hy
    rcases M.ge b hb with h | h
    · have h2 := (Array.getElem?_eq_some_iff.1 (hT d hd)).1
      have h3 : w.heap.size ≤ b.g := h
      omega
    · simp at h
  lay := M.lay

theorem Mem.putT {c : Ctx} {L T T' : List Blk} {W W' : World} (M : Mem c (L ++ T) W) (h : OkT W W' T T') : Mem c (L ++ T') W' where
  old := ⟨h.grw.os.trans M.old.os, h.grw.tape.trans M.old.tape, h.grw.output.trans M.old.output, Nat.le_trans M.old.size h.grw.size, fun k hk hr => by
    refine (h.grw.block k (Nat.lt_of_lt_of_le hk M.old.size) fun e => ?_).trans (M.old.block k hk hr)
    obtain ⟨b, hb, rfl⟩ := List.mem_map.1 e
    rcases M.ge b (List.mem_append_right _ hb) with h1 | h1
    · omega
    · exact hr h1⟩
  at_ := fun b hb => by
    rcases List.mem_append.1 hb with hb | hb
    · rw [h.grw.block _ (M.lt (List.mem_append_left _ hb)) fun e => ?_]
      · exact M.at_ b (List.mem_append_left _ hb)
      · have hn := M.nodup
        rw [List.map_append, List.nodup_append] at hn
        exact hn.2.2 _ (List.mem_map_of_mem hb) _ e rfl
    · exact h.at_ b hb
  ge := fun b hb => by
    rcases List.mem_append.1 hb with hb | hb
    · exact M.ge b (List.mem_append_left _ hb)
    · rcases h.ge b hb with h1 | h1
      · obtain ⟨d, hd, e⟩ := List.mem_map.1 h1
        rw [← e]
        exact M.ge d (List.mem_append_right _ hd)
      · exact .inl (Nat.le_trans M.old.size h1)
  nodup := by
    have hn := M.nodup
    rw [List.map_append, List.nodup_append] at hn ⊢
    refine ⟨hn.1, h.nodup, fun x hx y hy e => ?_⟩
    obtain ⟨d, hd, rfl⟩ := List.mem_map.1 hy
    rcases h.ge d hd with h1 | h1
    · exact hn.2.2 _ hx _ h1 e
    · obtain ⟨b, hb, rfl⟩ := List.mem_map.1 hx
      have := M.lt (List.mem_append_left _ hb)
      omega
  lay := M.lay

theorem Mem.tail {c : Ctx} {L T : List Blk} {W : World} (M : Mem c (L ++ T) W) : (∀ b ∈ T, W.heap[b.g]? = some b.Z) ∧ (T.map Blk.g).Nodup := ⟨fun b hb => M.at_ b (List.mem_append_right _ hb), by
  have hn := M.nodup
  rw [List.map_append, List.nodup_append] at hn
  exact hn.2.1⟩

/-- What comes of a whole call that began with the blocks T. -/
theorem Mem.okT {w : World} {L T T' : List Blk} {W : World} (M : Mem ⟨w, T.map Blk.g⟩ (L ++ T') W) : OkT w W T T' := ⟨M.old, M.tail.1, M.tail.2, fun b hb => (M.ge b (List.mem_append_right _ hb)).symm⟩

theorem okT_one {w w' : World} {g : Nat} {Z Z' : Obj} (h : Grw w w' [g]) (h1 : w'.heap[g]? = some Z') : OkT w w' [⟨g, Z⟩] [⟨g, Z'⟩] := ⟨h, by simpa using h1, by simp, by simp⟩
theorem okT_two {w w' : World} {g k : Nat} {Z Z' Y Y' : Obj} (h : Grw w w' [g, k]) (h1 : w'.heap[g]? = some Z') (h2 : w'.heap[k]? = some Y') (hne : g ≠ k) : OkT w w' [⟨g, Z⟩, ⟨k, Y⟩] [⟨g, Z'⟩, ⟨k, Y'⟩] := ⟨h, by simpa using ⟨h1, h2⟩, by simpa using hne, by simp⟩

section
variable {P : Program} {ops : Array Oper} {rest : List Oper} {o : Oper} {a : Act} {w : World} {c : Ctx} {L T : List Blk} {Q : Exit → Act → World → Prop}

/-- A call that changes the blocks T. -/
theorem pl_callT (M : Mem c (L ++ T) w) (hw : Region.wanted o (yielded ops a.tmps) = true) (d : Option Tmp) (hd : o.dst = d) (f : FuncId) (args : Array Value) (v : Value) (R : List Blk → Prop) (hrun : ∀ w, (execOp a.eval o).run P w = .ok (.enter f args) w)
    (hc : ∀ w, (∀ b ∈ T, w.heap[b.g]? = some b.Z) → (T.map Blk.g).Nodup → Calls P f args w fun e w' => e = .returned v ∧ ∃ T', R T' ∧ OkT w w' T T') (h : ∀ T' w', R T' → Mem c (L ++ T') w' → PL P ops Q rest (a.put d v) w') : PL P ops Q (o :: rest) a w :=
  pl_callq hw d hd f args hrun ((hc w M.tail.1 M.tail.2).mono fun _ w' ⟨he, T', hR, hk⟩ => ⟨v, he, h T' w' hR (M.putT hk)⟩)

/-- A call that changes two blocks. -/
theorem pl_call2 (M : Mem c L w) (hw : Region.wanted o (yielded ops a.tmps) = true) (d : Option Tmp) (hd : o.dst = d) (f : FuncId) (args : Array Value) (v : Value) (i j g k : Nat) (Z Y Z' Y' : Obj) (hi : L[i]? = some ⟨g, Z⟩) (hj : L[j]? = some ⟨k, Y⟩) (hrun : ∀ w, (execOp a.eval o).run P w = .ok (.enter f args) w)
    (hc : ∀ w, Mem c L w → Calls P f args w fun e w' => e = .returned v ∧ Grw w w' [g, k] ∧ w'.heap[g]? = some Z' ∧ w'.heap[k]? = some Y') (h : ∀ w', Mem c ((L.set i ⟨g, Z'⟩).set j ⟨k, Y'⟩) w' → PL P ops Q rest (a.put d v) w') : PL P ops Q (o :: rest) a w :=
  pl_callq hw d hd f args hrun ((hc w M).mono fun _ w' ⟨he, h1, h2, h3⟩ => ⟨v, he, h w' (M.put2 i j ⟨g, Z⟩ ⟨k, Y⟩ hi hj Z' Y' h1 h2 h3)⟩)

/-- A call that makes two blocks and tells where the first one is. -/
theorem pl_callm2 (M : Mem c L w) (hw : Region.wanted o (yielded ops a.tmps) = true) (d : Option Tmp) (hd : o.dst = d) (f : FuncId) (args : Array Value) (v : Nat → Value) (R : Nat → Nat → Obj → Obj → Prop) (hrun : ∀ w, (execOp a.eval o).run P w = .ok (.enter f args) w)
    (hc : ∀ w, Mem c L w → Calls P f args w fun e w' => ∃ g k Z Y, e = .returned (v g) ∧ R g k Z Y ∧ w.heap.size ≤ g ∧ w.heap.size ≤ k ∧ g ≠ k ∧ w'.heap[g]? = some Z ∧ w'.heap[k]? = some Y ∧ Below w.heap.size w w') (h : ∀ g k Z Y w', R g k Z Y → Mem c (L ++ [⟨g, Z⟩, ⟨k, Y⟩]) w' → PL P ops Q rest (a.put d (v g)) w') : PL P ops Q (o :: rest) a w :=
  pl_callq hw d hd f args hrun ((hc w M).mono fun _ w' ⟨g, k, Z, Y, he, hR, h1, h2, h3, h4, h5, hb⟩ => ⟨v g, he, h g k Z Y w' hR (M.news hb (by simpa using ⟨h4, h5⟩) (by simpa using ⟨h1, h2⟩) (by simpa using h3))⟩)

end
/-- Cells of a type, as append asks for them. -/
def InfoIs (P : Program) (e : TypeId) (zv : Value) : Prop := ∃ i, P.info? e = some i ∧ i.zero = some zv ∧ i.size = 1 ∧ i.bytes ≤ 16
theorem infoIs {P : Program} {e : TypeId} {zv : Value} {b : Nat} (h1 : (P.info? e).map (·.zero) = some (some zv)) (h2 : (P.info? e).map (·.size) = some 1) (h3 : (P.info? e).map (·.bytes) = some b) (hb : b ≤ 16) : InfoIs P e zv := by
  cases h : P.info? e with
  | none => rw [h] at h2; cases h2
  | some i =>
    rw [h] at h1 h2 h3
    simp only [Option.map_some, Option.some.injEq] at h1 h2 h3
    exact ⟨i, h, h1, h2, by omega⟩
theorem info23 : InfoIs Try.prog 23 (.int .u64 0) := infoIs (b := 8) (by kernel_rfl) (by kernel_rfl) (by kernel_rfl) (by decide)
section
variable {P : Program} {ops : Array Oper} {rest : List Oper} {o : Oper} {a : Act} {w : World} {c : Ctx} {L : List Blk} {Q : Exit → Act → World → Prop}
theorem pl_appI (M : Mem c L w) (hw : Region.wanted o (yielded ops a.tmps) = true) (d : Option Tmp) (hd : o.dst = d) (t ty e : TypeId) (zv : Value) (ht : P.underlying t = some (.slice e)) (hin : InfoIs P e zv) (hzc : zv.cells.size = 1) (i g n cap : Nat) (Z : Obj) (l : List Value) (hi : L[i]? = some ⟨g, Z⟩) (hs : SB Z cap l) (hn : l.length = n) (hle : n < 1000000) (j gx Tx : Nat) (v : Value) (hj : L[j]? = some ⟨gx, .cells (av 1 (fun _ => v)) Tx⟩) (h1 : v.oneCell' = true)
    (hrun : ∀ w, (execOp a.eval o).run P w = (do pure (Next.value (← Builtin.append_ #[t, t] ty #[.slice (some ⟨g, 0, none⟩) n cap, .slice (some ⟨gx, 0, none⟩) 1 1]))).run P w)
    (h : ∀ g' cap' Z' w', SB Z' cap' (l ++ [v]) → Mem c (L.eraseIdx i ++ [⟨g', Z'⟩]) w' → PL P ops Q rest (a.put d (.slice (some ⟨g', 0, none⟩) (n + 1) cap')) w') : PL P ops Q (o :: rest) a w := by
  obtain ⟨info, i1, i2, i3, i4⟩ := hin
  exact pl_app M hw d hd t ty e info zv ht i1 i2 i3 i4 hzc i g n cap Z l hi hs hn hle j gx Tx v hj h1 hrun h
theorem pl_app0I (M : Mem c L w) (hw : Region.wanted o (yielded ops a.tmps) = true) (d : Option Tmp) (hd : o.dst = d) (t ty e : TypeId) (zv : Value) (ht : P.underlying t = some (.slice e)) (hin : InfoIs P e zv) (hzc : zv.cells.size = 1) (j gx Tx : Nat) (v : Value) (hj : L[j]? = some ⟨gx, .cells (av 1 (fun _ => v)) Tx⟩)
    (hrun : ∀ w, (execOp a.eval o).run P w = (do pure (Next.value (← Builtin.append_ #[t, t] ty #[.slice none 0 0, .slice (some ⟨gx, 0, none⟩) 1 1]))).run P w)
    (h : ∀ g' cap' Z' w', SB Z' cap' [v] → Mem c (L ++ [⟨g', Z'⟩]) w' → PL P ops Q rest (a.put d (.slice (some ⟨g', 0, none⟩) 1 cap')) w') : PL P ops Q (o :: rest) a w := by
  obtain ⟨info, i1, i2, i3, i4⟩ := hin
  exact pl_app0 M hw d hd t ty e info zv ht i1 i2 i3 i4 hzc j gx Tx v hj hrun h
end
theorem run_ixK {P : Program} {a : Act} {o : Oper} (t elem K : TypeId) (hu : P.underlying t = some (.slice elem)) (hs : (P.info? elem).map (·.size) = some K) (x ix : Operand) (ho : o.op = .indexAddr t x ix) (l : Option Addr) (g off len cap : Nat) (hx : a.eval x = .slice l len cap) (hl : l = some ⟨g, off, none⟩) (k : IntKind) (i : Nat) (hi : a.eval ix = .int k (i : Int)) (hlt : i < len) (w : World) :
    (execOp a.eval o).run P w = .ok (.value (.pointer (some ⟨g, off + i * K, none⟩))) w := by
  subst hl
  cases hq : P.info? elem with
  | none => simp [hq] at hs
  | some info =>
    have hsz : info.size = K := by simpa [hq] using hs
    unfold execOp
    simp [ho, hx, hi, Instr.indexAt, asIntOf, run_underlying hu, sizeOf, typeInfo, hq, hsz, add_at, hlt]

def ud (x y : Int) : Int := IntKind.wrap .u64 (BitVec.ofInt 64 x &&& ~~~ BitVec.ofInt 64 y).toNat
theorem run_remU {P : Program} {a : Act} {o : Oper} (t rt : TypeId) (x y : Operand) (ho : o.op = .binOp .rem t x y rt) (m d : Nat) (hx : a.eval x = .int .u64 (m : Int)) (hy : a.eval y = .int .u64 (d : Int)) (hd : 0 < d) (w : World) :
    (execOp a.eval o).run P w = .ok (.value (.int .u64 ((m % d : Nat) : Int))) w := by
  have h0 : ¬ d = 0 := by omega
  have e : Int.tmod (m : Int) (d : Int) = (m : Int) % (d : Int) := rfl
  unfold execOp
  simp [ho, hx, hy, eqGuard, binOp, Op.intDiv, h0, e]
theorem run_quoU {P : Program} {a : Act} {o : Oper} (t rt : TypeId) (x y : Operand) (ho : o.op = .binOp .quo t x y rt) (m d : Nat) (hx : a.eval x = .int .u64 (m : Int)) (hy : a.eval y = .int .u64 (d : Int)) (hd : 0 < d) (hm : m < 18446744073709551616) (w : World) :
    (execOp a.eval o).run P w = .ok (.value (.int .u64 ((m / d : Nat) : Int))) w := by
  have h0 : ¬ d = 0 := by omega
  have h2 : m / d ≤ m := Nat.div_le_self m d
  have e2 : IntKind.wrap .u64 ((m : Int) / (d : Int)) = (m : Int) / (d : Int) := by
    have e3 : (m : Int) / (d : Int) = ((m / d : Nat) : Int) := rfl
    rw [e3]
    generalize m / d = q at *
    rw [IntKind.wrap_u64]
    omega
  unfold execOp
  simp only [ho, hx, hy]
  simp [eqGuard, binOp, Op.intDiv, h0]
  exact e2
/-- How many words. -/
def nW (s : Nat) : Nat := (s + 63) / 64
def cpF (n : Nat) (m : Nat → Int) : Nat → Int := fun i => if i < n then m i else 0
def clF (n : Nat) (m : Nat → Int) : Nat → Int := fun i => if i < n then 0 else m i
section
variable {ops : Array Oper} {rest : List Oper} {o : Oper} {a : Act} {w : World} {c : Ctx} {L : List Blk} {Q : Exit → Act → World → Prop}
theorem pl_makeW (M : Mem c L w) (hw : Region.wanted o (yielded ops a.tmps) = true) (d : Option Tmp) (hd : o.dst = d) (x y : Operand) (ho : o.op = .makeSlice 41 x y) (n : Nat) (hx : a.eval x = .int .i64 (n : Int)) (hy : a.eval y = .int .i64 (n : Int)) (hc : n < 1000000)
    (h : ∀ g w', Mem c (L ++ [⟨g, .cells (av n (w64 (fun _ => 0))) 23⟩]) w' → PL Try.prog ops Q rest (a.put d (.slice (some ⟨g, 0, none⟩) n n)) w') : PL Try.prog ops Q (o :: rest) a w := by
  obtain ⟨info, i1, i2, i3, i4⟩ := info23
  have hr := run_make (P := Try.prog) w 41 23 info (.int .u64 0) Try.underlying41 i1 i2 .i64 .i64 (n : Int) (n : Int) (by omega) (by omega) (by
    have := Int.mul_le_mul (show (info.bytes : Int) ≤ 16 by omega) (show (n : Int) ≤ 1000000 by omega) (by omega) (by omega)
    omega) (by omega)
  simp only [Int.toNat_natCast, i3, Nat.mul_one] at hr
  have e : madeCells (Value.int .u64 0).cells n = av n (w64 (fun _ => 0)) := by
    apply Array.ext_getElem?
    intro i
    by_cases hi : i < n
    · rw [av_get n _ i hi]
      simp [madeCells, hi, w64, Value.cells, Nat.mod_one]
    · rw [Array.getElem?_eq_none (by simp [madeCells]; omega), Array.getElem?_eq_none (by simp [av_size]; omega)]
  rw [e] at hr
  refine pl_to hw d hd (.slice (some ⟨w.heap.size, 0, none⟩) n n) _ ?_ (h w.heap.size (w.alloc (.cells (av n (w64 (fun _ => 0))) 23)) (M.new _ _ (new_below w _) (heap_alloc_new w _) (Nat.le_refl _)))
  unfold execOp
  simp only [ho, hx, hy, Sem.run_bind, Sem.run_pure]
  rw [hr]
  rfl
theorem pl_clearW (M : Mem c L w) (hw : Region.wanted o (yielded ops a.tmps) = true) (hd : o.dst = none) (i g N : Nat) (m : Nat → Int) (hi : L[i]? = some ⟨g, .cells (av N (w64 m)) 23⟩) (n cp : Nat) (hn : 0 < n) (hle : n ≤ N)
    (hrun : ∀ w, (execOp a.eval o).run Try.prog w = (do pure (Next.value (← Builtin.clear_ #[41] 0 #[.slice (some ⟨g, 0, none⟩) n cp]))).run Try.prog w)
    (h : ∀ w', Mem c (L.set i ⟨g, .cells (av N (w64 (clF n m))) 23⟩) w' → PL Try.prog ops Q rest (a.put none (.tuple #[])) w') : PL Try.prog ops Q (o :: rest) a w := by
  have R := M.get i hi
  have hr := Lib.run_clear_slice (P := Try.prog) w 41 23 0 (.int .u64 0) Try.underlying41 (fun _ => by kernel_rfl) rfl rfl g 0 n cp hn (fun j hj => by rw [Nat.zero_add, cell_av R (by omega)]; rfl) (fun j hj => free_av R _)
  have e : List.replicate n (Value.int .u64 0) = (av n (fun _ => .int .u64 0)).toList := by
    apply List.ext_getElem?
    intro i
    by_cases hi : i < n
    · have e1 : (av n (fun _ => Value.int .u64 0)).toList[i]? = some (.int .u64 0) := by rw [Array.getElem?_toList, av_get n _ i hi]
      rw [e1]
      simp [hi]
    · rw [List.getElem?_eq_none (by simp; omega), List.getElem?_eq_none (by simp [av_size]; omega)]
  rw [e] at hr
  refine pl_to hw none hd (.tuple #[]) _ ?_ (h _ (M.put i ⟨g, _⟩ hi _ (grown_setCells g _ _ _) (by rw [heap_setCells g 23 _ w _ 0 R, setAll_av N (w64 m) (fun _ => .int .u64 0) (w64 (clF n m)) 0 n (by omega) (fun j _ => by
    unfold w64 clF
    by_cases hj : j < n
    · rw [if_pos (by omega), if_pos hj]
    · rw [if_neg (by omega), if_neg hj])])))
  rw [hrun]
  simp only [Sem.run_bind, hr, Result.andThen_ok, Sem.run_pure]
/-- A copy of words, in a block of its own. -/
theorem pl_clone (M : Mem c L w) (hw : Region.wanted o (yielded ops a.tmps) = true) (d : Option Tmp) (hd : o.dst = d) (i g N : Nat) (m : Nat → Int) (hi : L[i]? = some ⟨g, .cells (av N (w64 m)) 23⟩) (gx n cp : Nat) (hn : 0 < n) (hle : n ≤ N) (hl : n < 1000000)
    (hrun : ∀ w, (execOp a.eval o).run Try.prog w = (do pure (Next.value (← Builtin.append_ #[41, 41] 41 #[.slice (some ⟨gx, 0, none⟩) 0 0, .slice (some ⟨g, 0, none⟩) n cp]))).run Try.prog w)
    (h : ∀ g' cap' w', n ≤ cap' → Mem c (L ++ [⟨g', .cells (av cap' (w64 (cpF n m))) 23⟩]) w' → PL Try.prog ops Q rest (a.put d (.slice (some ⟨g', 0, none⟩) n cap')) w') : PL Try.prog ops Q (o :: rest) a w := by
  obtain ⟨info, i1, i2, i3, i4⟩ := info23
  have R := M.get i hi
  have hlen : (av n (w64 m)).toList.length = n := by simp [av_size]
  have hr := run_append_grow (P := Try.prog) w 41 41 23 info (.int .u64 0) Try.underlying41 i1 i2 ⟨gx, 0, none⟩ 0 0 [] (by simp) (fun k u hu => by simp at hu) ⟨g, 0, none⟩ n cp (av n (w64 m)).toList (by rw [i3, hlen]; omega) (fun k u hu => by
      obtain ⟨hk, rfl⟩ := av_toList_get _ _ _ _ hu
      rw [add_at, Nat.zero_add]
      exact cell_av R (by omega)) (by omega) (by omega) (growslice_fits (by omega) (by
        have := Nat.mul_le_mul (show 0 + n ≤ 1000000 by omega) i4
        omega))
  have hge := grownCap_ge w (0 + n) 0 23
  generalize grownCap w (0 + n) 0 23 = nc at hr hge
  rw [Nat.zero_add] at hr hge
  have e : (([] : List Value).toArray ++ (av n (w64 m)).toList.toArray ++ Builtin.zeroCells (Value.int .u64 0).cells (nc - n)) = av nc (w64 (cpF n m)) := by
    apply Array.ext_getElem?
    intro i
    have hz : (Builtin.zeroCells (Value.int .u64 0).cells (nc - n)).size = nc - n := by rw [size_zeroCells]; simp [Value.cells]
    by_cases hi : i < n
    · rw [av_get nc _ i (by omega), Array.getElem?_append_left (by simp [av_size]; omega)]
      simp only [Array.toArray_toList, Array.empty_append]
      rw [av_get n _ i hi]
      unfold w64 cpF
      rw [if_pos hi]
    · by_cases hj : i < nc
      · rw [av_get nc _ i hj, Array.getElem?_append_right (by simp [av_size]; omega)]
        have h9 : i - n < nc - n := by omega
        simp [Builtin.zeroCells, Value.cells, w64, cpF, hi, av_size, h9, Nat.mod_one]
      · rw [Array.getElem?_eq_none (by simp [av_size]; omega), Array.getElem?_eq_none (by simp [av_size]; omega)]
  rw [e] at hr
  have hr2 : (execOp a.eval o).run Try.prog w = .ok (.value (.slice (some ⟨w.heap.size, 0, none⟩) n nc)) (w.drew.alloc (.cells (av nc (w64 (cpF n m))) 23)) := by
    rw [hrun]
    simp only [Sem.run_bind, hr, Result.andThen_ok, Sem.run_pure]
  exact pl_to hw d hd _ _ hr2 (h w.heap.size nc _ hge (M.drew.new w.heap.size _ (new_below _ _) (heap_alloc_new w.drew _) (Nat.le_refl _)))
end

end Go.Proofs.Ytpcdnagonpnpmaa
