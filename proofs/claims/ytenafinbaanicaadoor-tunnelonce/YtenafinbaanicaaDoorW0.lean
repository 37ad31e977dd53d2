/- Lists of blocks that are there, and that a call may change; cells that are listed. -/
import Derived.Test.YtenafinbaanicaaDoorA7
import Derived.Lib.SliceRun
namespace Go.Proofs.YtenafinbaanicaaDoor
open Go.RowKit
set_option maxRecDepth 100000

/-- Listed cells. -/
def ls (l : List Value) : Nat → Value := fun i => l.getD i undef
theorem getD_app (l : List Value) (j : Nat) : l.getD j undef = l[j]?.getD undef := by simp
theorem part_ls (l : List Value) (off n : Nat) (l' : List Value) (h : (l.drop off).take n = l') (j : Nat) (hj : j < n) : ls l (off + j) = ls l' j := by
  subst h
  unfold ls
  rw [getD_app, getD_app, List.getElem?_take, if_pos hj, List.getElem?_drop]
theorem put_ls (l : List Value) (k : Nat) (v : Value) (l' : List Value) (h : l.set k v = l') {n : Nat} (j : Nat) (hj : j < n) (hl : n ≤ l.length := by exact Nat.le_of_ble_eq_true rfl) : (if j = k then v else ls l j) = ls l' j := by
  subst h
  unfold ls
  rw [getD_app, getD_app, List.getElem?_set]
  by_cases e : k = j
  · subst e
    rw [if_pos rfl, if_pos rfl, if_pos (by omega)]
    rfl
  · rw [if_neg (fun h => e h.symm), if_neg e]
theorem putp_ls (l m : List Value) (off : Nat) (l' : List Value) (h : l.take off ++ m ++ l.drop (off + m.length) = l') {n : Nat} (hl : n ≤ l.length ∧ off + m.length ≤ l.length) (j : Nat) (hj : j < n) : (if off ≤ j ∧ j < off + m.length then ls m (j - off) else ls l j) = ls l' j := by
  subst h
  unfold ls
  simp only [getD_app]
  have e1 : (l.take off).length = off := by simp; omega
  by_cases c : off ≤ j ∧ j < off + m.length
  · rw [if_pos c, List.append_assoc, List.getElem?_append_right (by omega), e1, List.getElem?_append_left (by omega)]
  · rw [if_neg c]
    by_cases d : j < off
    · rw [List.append_assoc, List.getElem?_append_left (by omega), List.getElem?_take, if_pos d]
    · rw [List.getElem?_append_right (by simp; omega), List.getElem?_drop]
      congr 2
      simp
      omega
theorem one_ls (l : List Value) (h : l.all (·.oneCell') = true) {n : Nat} (hn : n ≤ l.length := by exact Nat.le_of_ble_eq_true rfl) (j : Nat) (hj : j < n) : (ls l j).oneCell' = true := by
  unfold ls
  rw [getD_app, List.getElem?_eq_getElem (by omega)]
  exact List.all_eq_true.1 h _ (List.getElem_mem _)
theorem sb_ls (l : List Int) (T : TypeId) {n : Nat} (hn : n = l.length := by rfl) : SB (.cells (av n (ls (vs8 l))) T) n (vs8 l) := by
  subst hn
  refine ⟨_, T, (0, 0), rfl, by simp [vs8], by rw [av_size]; exact Nat.le_refl _, fun i hi => ?_, fun i _ => by simp⟩
  rw [vs8_length] at hi
  rw [av_get _ _ _ hi]
  unfold ls
  rw [getD_app, List.getElem?_eq_getElem (by rw [vs8_length]; exact hi)]
  rfl
theorem seq_pos {a b : ByteArray} (h : a = b) : (a.toList == b.toList) = true := by rw [h, beq_self_eq_true]
theorem seq_neg {a b : ByteArray} (h : ¬ a = b) : (a.toList == b.toList) = false := by
  rw [beq_eq_false_iff_ne]
  intro e
  rw [ByteArray.toList_eq, ByteArray.toList_eq] at e
  exact h (ByteArray.ext (Array.toList_inj.1 e))
theorem call_val {P : Program} {f : FuncId} {args : Array Value} {w : World} {v v' : Value} {X : World → Prop} (h : Calls P f args w fun e w' => e = .returned v ∧ X w') (hv : v = v') : Calls P f args w fun e w' => e = .returned v' ∧ X w' := hv ▸ h
theorem nat_of {k : IntKind} {x : Int} {v : Value} (h : v = .int k x) (h0 : 0 ≤ x) : v = .int k (x.toNat : Int) := by rw [h, Int.toNat_of_nonneg h0]
theorem ro_below1 {w w' : World} {g : Nat} {Z : Obj} (h : Grw w w' [g]) (h0 : w.heap[g]? = some Z) (h1 : w'.heap[g]? = some Z) : Below w.heap.size w w' := ⟨h.os, h.tape, h.output, h.size, fun k hk => by
  by_cases e : k = g
  · subst e
    rw [h0, h1]
  · exact h.block k hk (by simpa using e)⟩
theorem cv_u8 (x : Int) : cv .u8 x = x % 256 := by
  unfold cv
  simp [IntKind.wrap, IntKind.signed, IntKind.bits]
theorem cv_u16 (x : Int) : cv .u16 x = x % 65536 := by
  unfold cv
  simp [IntKind.wrap, IntKind.signed, IntKind.bits]
theorem cv_u32 (x : Int) : cv .u32 x = x % 4294967296 := by
  unfold cv
  simp [IntKind.wrap, IntKind.signed, IntKind.bits]
theorem cv_u64 (x : Int) : cv .u64 x = x % 18446744073709551616 := by
  unfold cv
  simp [IntKind.wrap, IntKind.signed, IntKind.bits]
section
variable {P : Program} {ops : Array Oper} {o o2 o3 : Oper} {a : Act} {w : World} {Q : Exit → Act → World → Prop} {S : World → Prop} {n fuel : Nat} {listed : Array Bool}
theorem hl_name (h : ∀ H : Nat → Array Bool → Act → World → Prop, (∀ f l a w, H f l a w → HL P ops Q S n f l a w) → (∀ f l a w, HL P ops Q S n f l a w → H f l a w) → H fuel listed a w) : HL P ops Q S n fuel listed a w := h _ (fun _ _ _ _ h => h) (fun _ _ _ _ h => h)
/-- Number i, number j or number k may come up. -/
theorem hl_three (i j k : Nat) (hin : i < n) (hjn : j < n) (hkn : k < n) (hr : Region.ready .any ops listed = [i, j, k]) (hi : ops.toList[i]? = some o) (hj : ops.toList[j]? = some o2) (hk : ops.toList[k]? = some o3)
    (h : PL P ops (Exit.then (fun a' w' => S w' ∧ HL P ops Q S n fuel (listed.setIfInBounds i true) a' w') Q) [o] a w)
    (h2 : PL P ops (Exit.then (fun a' w' => S w' ∧ HL P ops Q S n fuel (listed.setIfInBounds j true) a' w') Q) [o2] a w)
    (h3 : PL P ops (Exit.then (fun a' w' => S w' ∧ HL P ops Q S n fuel (listed.setIfInBounds k true) a' w') Q) [o3] a w) : HL P ops Q S n (fuel + 1) listed a w := by
  refine ⟨fun hQ hB inv => ⟨fun h0 => (by rw [hr] at h0; cases h0), fun m hm => ?_⟩⟩
  have hm' := hm
  rw [hr] at hm
  rcases List.mem_cons.1 hm with rfl | hm
  · exact wpOp_mono (fun a' w' h3 => ⟨fun _ => h3.1, h3.2.out hQ hB (inv.set hm' hin)⟩) (wpOp_one (by rw [← Array.getElem?_toList]; exact hi) h.out)
  rcases List.mem_cons.1 hm with rfl | hm
  · exact wpOp_mono (fun a' w' h3 => ⟨fun _ => h3.1, h3.2.out hQ hB (inv.set hm' hjn)⟩) (wpOp_one (by rw [← Array.getElem?_toList]; exact hj) h2.out)
  · obtain rfl := List.mem_singleton.1 hm
    exact wpOp_mono (fun a' w' h3 => ⟨fun _ => h3.1, h3.2.out hQ hB (inv.set hm' hkn)⟩) (wpOp_one (by rw [← Array.getElem?_toList]; exact hk) h3.out)
end
theorem cut_at {P : Program} {x : Code} {K I : Act → World → Prop} {Q : Exit → Act → World → Prop} {a : Act} {w : World} (h1 : x.wp P (Exit.then I Q) a w) (h2 : ∀ a w, I a w → K a w) : x.wp P (Exit.then K Q) a w :=
  wp_mono h1 fun e a w h => by
    cases e <;> first | exact h2 _ _ h | exact h
theorem sz_mk (a : Array UInt8) : (⟨a⟩ : ByteArray).size = a.size := rfl
theorem if_max (x y : Int) : (if y > x then y else x) = max x y := by
  rw [Int.max_def]
  split <;> split <;> omega
theorem run_shlX {P : Program} {a : Act} {o : Oper} (t rt : TypeId) (x y : Operand) (ho : o.op = .binOp .shl t x y rt) (k : Int) (ky : IntKind) (m : Nat) (hx : a.eval x = .int .u64 k) (hy : a.eval y = .int ky (m : Int)) (w : World) :
    (execOp a.eval o).run P w = .ok (.value (.int .u64 (sl k m))) w := by
  by_cases hm : m ≤ 64
  · exact Pol.run_shlU t rt x y ho k ky m hx hy hm w
  · have e : IntKind.wrap .u64 (k * 2 ^ min m 64) = IntKind.wrap .u64 (k * 2 ^ m) := by
      obtain ⟨n, rfl⟩ : ∃ n, m = n + 64 := ⟨m - 64, by omega⟩
      rw [IntKind.wrap_u64, IntKind.wrap_u64, Nat.min_eq_right (by omega), Int.pow_add, ← Int.mul_assoc]
      have : (2 : Int) ^ 64 = 18446744073709551616 := rfl
      rw [this, Int.mul_emod_left, Int.mul_emod_left]
    unfold execOp sl
    rw [← e]
    simp [ho, hx, hy, eqGuard, binOp, Op.shift, IntKind.bits]
    intro h
    omega
theorem results_t3 {P : Program} {fn : Func} {p q r : Tmp} (h : fn.results = #[.tmp p, .tmp q, .tmp r]) (tmps : Array Value) (w : World) (v u x : Value) (hp : tmps.getD p undef = v) (hq : tmps.getD q undef = u) (hr : tmps.getD r undef = x) : (results fn tmps).run P w = .ok (.tuple #[v, u, x]) w := by
  subst hp hq hr
  simp [results, h]
/-- These blocks are there, no two of them one, none of them a package variable's. -/
structure There (w : World) (T : List Blk) : Prop where
  at_ : ∀ b ∈ T, w.heap[b.g]? = some b.Z
  nodup : (T.map Blk.g).Nodup
  ne : ∀ b ∈ T, 1 < b.g
theorem Mem.startT {w : World} {T : List Blk} (hL : Laid w) (h : There w T) : Mem ⟨w, T.map Blk.g⟩ T w :=
  ⟨grown_refl _ _, h.at_, fun b hb => .inr (List.mem_map_of_mem hb), h.nodup, hL, fun k hk => by obtain ⟨b, hb, rfl⟩ := List.mem_map.1 hk; exact h.ne b hb⟩
theorem Mem.there {c : Ctx} {L T : List Blk} {W : World} (M : Mem c L W) (h : T.Sublist L) : There W T := ⟨fun b hb => M.at_ b (h.subset hb), M.nodup.sublist (h.map _), fun b hb => by
  rcases M.ge b (h.subset hb) with h1 | h1
  · exact Nat.lt_of_lt_of_le M.lay.lt h1
  · exact M.ne _ h1⟩
theorem There.sub {w : World} {T T' : List Blk} (h : There w T) (hs : T'.Sublist T) : There w T' := ⟨fun b hb => h.at_ b (hs.subset hb), h.nodup.sublist (hs.map _), fun b hb => h.ne b (hs.subset hb)⟩
theorem There.perm {w : World} {T T' : List Blk} (h : There w T) (hs : T.Perm T') : There w T' := ⟨fun b hb => h.at_ b (hs.mem_iff.2 hb), (hs.map _).nodup_iff.1 h.nodup, fun b hb => h.ne b (hs.mem_iff.2 hb)⟩
theorem ro_T {w W : World} {T : List Blk} (h : There w T) (M : Mem ⟨w, T.map Blk.g⟩ T W) : Below w.heap.size w W := ⟨M.old.os, M.old.tape, M.old.output, M.old.size, fun k hk => by
  by_cases e : k ∈ T.map Blk.g
  · obtain ⟨b, hb, rfl⟩ := List.mem_map.1 e
    rw [h.at_ b hb, M.at_ b hb]
  · exact M.old.block k hk e⟩
/-- What a call may leave of the blocks T. -/
structure OkT (w w' : World) (T T' : List Blk) : Prop where
  grw : Grw w w' (T.map Blk.g)
  at_ : ∀ b ∈ T', w'.heap[b.g]? = some b.Z
  nodup : (T'.map Blk.g).Nodup
  ge : ∀ b ∈ T', b.g ∈ T.map Blk.g ∨ w.heap.size ≤ b.g
theorem Mem.okT0 {w : World} {T T' : List Blk} {W : World} (M : Mem ⟨w, T.map Blk.g⟩ T' W) : OkT w W T T' := ⟨M.old, M.at_, M.nodup, fun b hb => (M.ge b hb).symm⟩
theorem okT_below {w w' : World} {T : List Blk} (h : There w T) (hb : Below w.heap.size w w') : OkT w w' T T := ⟨grown_below hb _, fun b hb' => by
  have := h.at_ b hb'
  rw [hb.block _ (Array.getElem?_eq_some_iff.1 this).1]
  exact this, h.nodup, fun b hb => .inl (List.mem_map_of_mem hb)⟩
theorem below_okT {w w' : World} {T' : List Blk} (h : OkT w w' [] T') : Below w.heap.size w w' := below_grown h.grw
theorem Mem.putT {c : Ctx} {L T T' : List Blk} {W W' : World} (M : Mem c (L ++ T) W) (h : OkT W W' T T') : Mem c (L ++ T') W' where
  old := ⟨h.grw.os.trans M.old.os, h.grw.tape.trans M.old.tape, h.grw.output.trans M.old.output, Nat.le_trans M.old.size h.grw.size, fun k hk hr => by
    refine (h.grw.block k (Nat.lt_of_lt_of_le hk M.old.size) fun e => ?_).trans (M.old.block k hk hr)
    obtain ⟨b, hb, rfl⟩ := List.mem_map.1 e
    rcases M.ge b (List.mem_append_right _ hb) with h1 | h1
    · omega
    · exact hr h1⟩
  at_ := fun b hb => by
    rcases List.mem_append.1 hb with hb | hb
    · rw [h.grw.block _ (M.lt (List.mem_append_left _ hb)) fun e => ?_]
      · exact M.at_ b (List.mem_append_left _ hb)
      · have hn := M.nodup
        rw [List.map_append, List.nodup_append] at hn
        exact hn.2.2 _ (List.mem_map_of_mem hb) _ e rfl
    · exact h.at_ b hb
  ge := fun b hb => by
    rcases List.mem_append.1 hb with hb | hb
    · exact M.ge b (List.mem_append_left _ hb)
    · rcases h.ge b hb with h1 | h1
      · obtain ⟨d, hd, e⟩ := List.mem_map.1 h1
        rw [← e]
        exact M.ge d (List.mem_append_right _ hd)
      · exact .inl (Nat.le_trans M.old.size h1)
  nodup := by
    have hn := M.nodup
    rw [List.map_append, List.nodup_append] at hn ⊢
    refine ⟨hn.1, h.nodup, fun x hx y hy e => ?_⟩
    obtain ⟨d, hd, rfl⟩ := List.mem_map.1 hy
    rcases h.ge d hd with h1 | h1
    · exact hn.2.2 _ hx _ h1 e
    · obtain ⟨b, hb, rfl⟩ := List.mem_map.1 hx
      have := M.lt (List.mem_append_left _ hb)
      omega
  lay := M.lay
  ne := M.ne

theorem Mem.front {c : Ctx} {L : List Blk} {b : Blk} {W : World} (M : Mem c (L ++ [b]) W) : Mem c (b :: L) W := M.perm (List.perm_append_singleton b L)
/-- What lies in the midst of the list is changed. -/
theorem Mem.mid {c : Ctx} {L pre T suf T' : List Blk} {W W' : World} (M : Mem c L W) (hp : L = pre ++ (T ++ suf)) (h : OkT W W' T T') : Mem c (pre ++ (T' ++ suf)) W' := by
  subst hp
  have p : ∀ X : List Blk, (pre ++ (X ++ suf)).Perm ((pre ++ suf) ++ X) := fun X => by
    rw [List.append_assoc]
    exact List.Perm.append_left pre List.perm_append_comm
  exact ((M.perm (p T)).putT h).perm (p T').symm
theorem Mem.thereM {c : Ctx} {L pre T suf : List Blk} {W : World} (M : Mem c L W) (hp : L = pre ++ (T ++ suf)) : There W T := by
  subst hp
  exact M.there ((List.sublist_append_left T suf).trans (List.sublist_append_right pre _))
section
variable {P : Program} {ops : Array Oper} {rest : List Oper} {o : Oper} {a : Act} {w : World} {c : Ctx} {L : List Blk} {Q : Exit → Act → World → Prop} {α : Type}
/-- A call that turns the blocks T, in the midst of the list, into others, as x tells. -/
theorem pl_callM (M : Mem c L w) (hw : Region.wanted o (yielded ops a.tmps) = true) (d : Option Tmp) (hd : o.dst = d) (f : FuncId) (args : Array Value) (pre T suf : List Blk) (hp : L = pre ++ (T ++ suf)) (v : α → Value) (T' : α → List Blk) (R : α → Prop) (hrun : ∀ w, (execOp a.eval o).run P w = .ok (.enter f args) w)
    (hc : ∀ w, Laid w → There w T → Calls P f args w fun e w' => ∃ x, e = .returned (v x) ∧ R x ∧ OkT w w' T (T' x)) (h : ∀ x w', R x → Mem c (pre ++ (T' x ++ suf)) w' → PL P ops Q rest (a.put d (v x)) w') : PL P ops Q (o :: rest) a w :=
  pl_callq hw d hd f args hrun ((hc w M.laid (M.thereM hp)).mono fun _ w' ⟨x, he, hR, hk⟩ => ⟨v x, he, h x w' hR (M.mid hp hk)⟩)
/-- A call that changes two blocks. -/
theorem pl_call2 (M : Mem c L w) (hw : Region.wanted o (yielded ops a.tmps) = true) (d : Option Tmp) (hd : o.dst = d) (f : FuncId) (args : Array Value) (v : Value) (i j g k : Nat) (Z Y Z' Y' : Obj) (hi : L[i]? = some ⟨g, Z⟩) (hj : L[j]? = some ⟨k, Y⟩) (hrun : ∀ w, (execOp a.eval o).run P w = .ok (.enter f args) w)
    (hc : ∀ w, Mem c L w → Calls P f args w fun e w' => e = .returned v ∧ Grw w w' [g, k] ∧ w'.heap[g]? = some Z' ∧ w'.heap[k]? = some Y') (h : ∀ w', Mem c ((L.set i ⟨g, Z'⟩).set j ⟨k, Y'⟩) w' → PL P ops Q rest (a.put d v) w') : PL P ops Q (o :: rest) a w :=
  pl_callq hw d hd f args hrun ((hc w M).mono fun _ w' ⟨he, h1, h2, h3⟩ => ⟨v, he, h w' (M.put2 i j ⟨g, Z⟩ ⟨k, Y⟩ hi hj Z' Y' h1 h2 h3)⟩)
end
/-- Cells of a type, as append asks for them. -/
def InfoIs (P : Program) (e : TypeId) (zv : Value) : Prop := ∃ i, P.info? e = some i ∧ i.zero = some zv ∧ i.size = 1 ∧ i.bytes ≤ 16
theorem infoIs {P : Program} {e : TypeId} {zv : Value} {b : Nat} (h1 : (P.info? e).map (·.zero) = some (some zv)) (h2 : (P.info? e).map (·.size) = some 1) (h3 : (P.info? e).map (·.bytes) = some b) (hb : b ≤ 16) : InfoIs P e zv := by
  cases h : P.info? e with
  | none => rw [h] at h2; cases h2
  | some i =>
    rw [h] at h1 h2 h3
    simp only [Option.map_some, Option.some.injEq] at h1 h2 h3
    exact ⟨i, h, h1, h2, by omega⟩
theorem info22 : InfoIs Tryd.prog 22 (.int .u64 0) := infoIs (b := 8) (by kernel_rfl) (by kernel_rfl) (by kernel_rfl) (by decide)
section
variable {P : Program} {ops : Array Oper} {rest : List Oper} {o : Oper} {a : Act} {w : World} {c : Ctx} {L : List Blk} {Q : Exit → Act → World → Prop}
theorem pl_appI (M : Mem c L w) (hw : Region.wanted o (yielded ops a.tmps) = true) (d : Option Tmp) (hd : o.dst = d) (t ty e : TypeId) (zv : Value) (ht : P.underlying t = some (.slice e)) (hin : InfoIs P e zv) (hzc : zv.cells.size = 1) (i g n cap : Nat) (Z : Obj) (l : List Value) (hi : L[i]? = some ⟨g, Z⟩) (hs : SB Z cap l) (hn : l.length = n) (hle : n < 1000000) (j gx Tx : Nat) (v : Value) (hj : L[j]? = some ⟨gx, .cells (av 1 (fun _ => v)) Tx⟩) (h1 : v.oneCell' = true)
    (hrun : ∀ w, (execOp a.eval o).run P w = (do pure (Next.value (← Builtin.append_ #[t, t] ty #[.slice (some ⟨g, 0, none⟩) n cap, .slice (some ⟨gx, 0, none⟩) 1 1]))).run P w)
    (h : ∀ g' cap' Z' w', SB Z' cap' (l ++ [v]) → Mem c (L.eraseIdx i ++ [⟨g', Z'⟩]) w' → PL P ops Q rest (a.put d (.slice (some ⟨g', 0, none⟩) (n + 1) cap')) w') : PL P ops Q (o :: rest) a w := by
  obtain ⟨info, i1, i2, i3, i4⟩ := hin
  exact pl_app M hw d hd t ty e info zv ht i1 i2 i3 i4 hzc i g n cap Z l hi hs hn hle j gx Tx v hj h1 hrun h
theorem pl_app0I (M : Mem c L w) (hw : Region.wanted o (yielded ops a.tmps) = true) (d : Option Tmp) (hd : o.dst = d) (t ty e : TypeId) (zv : Value) (ht : P.underlying t = some (.slice e)) (hin : InfoIs P e zv) (hzc : zv.cells.size = 1) (j gx Tx : Nat) (v : Value) (hj : L[j]? = some ⟨gx, .cells (av 1 (fun _ => v)) Tx⟩)
    (hrun : ∀ w, (execOp a.eval o).run P w = (do pure (Next.value (← Builtin.append_ #[t, t] ty #[.slice none 0 0, .slice (some ⟨gx, 0, none⟩) 1 1]))).run P w)
    (h : ∀ g' cap' Z' w', SB Z' cap' [v] → Mem c (L ++ [⟨g', Z'⟩]) w' → PL P ops Q rest (a.put d (.slice (some ⟨g', 0, none⟩) 1 cap')) w') : PL P ops Q (o :: rest) a w := by
  obtain ⟨info, i1, i2, i3, i4⟩ := hin
  exact pl_app0 M hw d hd t ty e info zv ht i1 i2 i3 i4 hzc j gx Tx v hj hrun h
end
def ud (x y : Int) : Int := IntKind.wrap .u64 (BitVec.ofInt 64 x &&& ~~~ BitVec.ofInt 64 y).toNat
theorem run_remU {P : Program} {a : Act} {o : Oper} (t rt : TypeId) (x y : Operand) (ho : o.op = .binOp .rem t x y rt) (m d : Nat) (hx : a.eval x = .int .u64 (m : Int)) (hy : a.eval y = .int .u64 (d : Int)) (hd : 0 < d) (w : World) :
    (execOp a.eval o).run P w = .ok (.value (.int .u64 ((m % d : Nat) : Int))) w := by
  have h0 : ¬ d = 0 := by omega
  have e : Int.tmod (m : Int) (d : Int) = (m : Int) % (d : Int) := rfl
  unfold execOp
  simp [ho, hx, hy, eqGuard, binOp, Op.intDiv, h0, e]
theorem run_quoU {P : Program} {a : Act} {o : Oper} (t rt : TypeId) (x y : Operand) (ho : o.op = .binOp .quo t x y rt) (m d : Nat) (hx : a.eval x = .int .u64 (m : Int)) (hy : a.eval y = .int .u64 (d : Int)) (hd : 0 < d) (hm : m < 18446744073709551616) (w : World) :
    (execOp a.eval o).run P w = .ok (.value (.int .u64 ((m / d : Nat) : Int))) w := by
  have h0 : ¬ d = 0 := by omega
  have h2 : m / d ≤ m := Nat.div_le_self m d
  have e2 : IntKind.wrap .u64 ((m : Int) / (d : Int)) = (m : Int) / (d : Int) := by
    have e3 : (m : Int) / (d : Int) = ((m / d : Nat) : Int) := rfl
    rw [e3]
    generalize m / d = q at *
    rw [IntKind.wrap_u64]
    omega
  unfold execOp
  simp only [ho, hx, hy]
  simp [eqGuard, binOp, Op.intDiv, h0]
  exact e2
/-- How many words. -/
def nW (s : Nat) : Nat := (s + 63) / 64
def cpF (n : Nat) (m : Nat → Int) : Nat → Int := fun i => if i < n then m i else 0
def clF (n : Nat) (m : Nat → Int) : Nat → Int := fun i => if i < n then 0 else m i
section
variable {ops : Array Oper} {rest : List Oper} {o : Oper} {a : Act} {w : World} {c : Ctx} {L : List Blk} {Q : Exit → Act → World → Prop}
theorem pl_makeW (M : Mem c L w) (hw : Region.wanted o (yielded ops a.tmps) = true) (d : Option Tmp) (hd : o.dst = d) (x y : Operand) (ho : o.op = .makeSlice 85 x y) (n : Nat) (hx : a.eval x = .int .i64 (n : Int)) (hy : a.eval y = .int .i64 (n : Int)) (hc : n < 1000000)
    (h : ∀ g w', Mem c (L ++ [⟨g, .cells (av n (w64 (fun _ => 0))) 22⟩]) w' → PL Tryd.prog ops Q rest (a.put d (.slice (some ⟨g, 0, none⟩) n n)) w') : PL Tryd.prog ops Q (o :: rest) a w := by
  obtain ⟨info, i1, i2, i3, i4⟩ := info22
  have hr := run_make (P := Tryd.prog) w 85 22 info (.int .u64 0) Tryd.underlying85 i1 i2 .i64 .i64 (n : Int) (n : Int) (by omega) (by omega) (by
    have := Int.mul_le_mul (show (info.bytes : Int) ≤ 16 by omega) (show (n : Int) ≤ 1000000 by omega) (by omega) (by omega)
    omega) (by omega)
  simp only [Int.toNat_natCast, i3, Nat.mul_one] at hr
  have e : madeCells (Value.int .u64 0).cells n = av n (w64 (fun _ => 0)) := by
    apply Array.ext_getElem?
    intro i
    by_cases hi : i < n
    · rw [av_get n _ i hi]
      simp [madeCells, hi, w64, Value.cells, Nat.mod_one]
    · rw [Array.getElem?_eq_none (by simp [madeCells]; omega), Array.getElem?_eq_none (by simp [av_size]; omega)]
  rw [e] at hr
  refine pl_to hw d hd (.slice (some ⟨w.heap.size, 0, none⟩) n n) _ ?_ (h w.heap.size (w.alloc (.cells (av n (w64 (fun _ => 0))) 22)) (M.new _ _ (new_below w _) (heap_alloc_new w _) (Nat.le_refl _)))
  unfold execOp
  simp only [ho, hx, hy, Sem.run_bind, Sem.run_pure]
  rw [hr]
  rfl
theorem pl_clearW (M : Mem c L w) (hw : Region.wanted o (yielded ops a.tmps) = true) (hd : o.dst = none) (i g N : Nat) (m : Nat → Int) (hi : L[i]? = some ⟨g, .cells (av N (w64 m)) 22⟩) (n cp : Nat) (hn : 0 < n) (hle : n ≤ N)
    (hrun : ∀ w, (execOp a.eval o).run Tryd.prog w = (do pure (Next.value (← Builtin.clear_ #[85] 0 #[.slice (some ⟨g, 0, none⟩) n cp]))).run Tryd.prog w)
    (h : ∀ w', Mem c (L.set i ⟨g, .cells (av N (w64 (clF n m))) 22⟩) w' → PL Tryd.prog ops Q rest (a.put none (.tuple #[])) w') : PL Tryd.prog ops Q (o :: rest) a w := by
  have R := M.get i hi
  have hr := Lib.run_clear_slice (P := Tryd.prog) w 85 22 0 (.int .u64 0) Tryd.underlying85 (fun _ => by kernel_rfl) rfl rfl g 0 n cp hn (fun j hj => by rw [Nat.zero_add, cell_av R (by omega)]; rfl) (fun j hj => free_av R _)
  have e : List.replicate n (Value.int .u64 0) = (av n (fun _ => .int .u64 0)).toList := by
    apply List.ext_getElem?
    intro i
    by_cases hi : i < n
    · have e1 : (av n (fun _ => Value.int .u64 0)).toList[i]? = some (.int .u64 0) := by rw [Array.getElem?_toList, av_get n _ i hi]
      rw [e1]
      simp [hi]
    · rw [List.getElem?_eq_none (by simp; omega), List.getElem?_eq_none (by simp [av_size]; omega)]
  rw [e] at hr
  refine pl_to hw none hd (.tuple #[]) _ ?_ (h _ (M.put i ⟨g, _⟩ hi _ (grown_setCells g _ _ _) (by rw [heap_setCells g 22 _ w _ 0 R, setAll_av N (w64 m) (fun _ => .int .u64 0) (w64 (clF n m)) 0 n (by omega) (fun j _ => by
    unfold w64 clF
    by_cases hj : j < n
    · rw [if_pos (by omega), if_pos hj]
    · rw [if_neg (by omega), if_neg hj])])))
  rw [hrun]
  simp only [Sem.run_bind, hr, Result.andThen_ok, Sem.run_pure]
end
theorem inz6 : (Tryd.prog.info? 6).map (·.size) = some 1 := by kernel_rfl
theorem inz7 : (Tryd.prog.info? 7).map (·.size) = some 4 := by kernel_rfl
theorem inz8 : (Tryd.prog.info? 8).map (·.size) = some 4 := by kernel_rfl
theorem inz10 : (Tryd.prog.info? 10).map (·.size) = some 1 := by kernel_rfl
theorem inz11 : (Tryd.prog.info? 11).map (·.size) = some 1 := by kernel_rfl
theorem inz12 : (Tryd.prog.info? 12).map (·.size) = some 1 := by kernel_rfl
theorem inz13 : (Tryd.prog.info? 13).map (·.size) = some 2 := by kernel_rfl
theorem inz14 : (Tryd.prog.info? 14).map (·.size) = some 2 := by kernel_rfl
theorem inz15 : (Tryd.prog.info? 15).map (·.size) = some 1 := by kernel_rfl
theorem inz16 : (Tryd.prog.info? 16).map (·.size) = some 1 := by kernel_rfl
theorem inz17 : (Tryd.prog.info? 17).map (·.size) = some 1 := by kernel_rfl
theorem inz18 : (Tryd.prog.info? 18).map (·.size) = some 1 := by kernel_rfl
theorem inz19 : (Tryd.prog.info? 19).map (·.size) = some 1 := by kernel_rfl
theorem inz21 : (Tryd.prog.info? 21).map (·.size) = some 1 := by kernel_rfl
theorem inz23 : (Tryd.prog.info? 23).map (·.size) = some 5 := by kernel_rfl
theorem inz24 : (Tryd.prog.info? 24).map (·.size) = some 5 := by kernel_rfl
theorem inz25 : (Tryd.prog.info? 25).map (·.size) = some 1 := by kernel_rfl
theorem inz27 : (Tryd.prog.info? 27).map (·.size) = some 1 := by kernel_rfl
theorem inz28 : (Tryd.prog.info? 28).map (·.size) = some 1 := by kernel_rfl
theorem inz31 : (Tryd.prog.info? 31).map (·.size) = some 1 := by kernel_rfl
theorem inz32 : (Tryd.prog.info? 32).map (·.size) = some 5 := by kernel_rfl
theorem inz33 : (Tryd.prog.info? 33).map (·.size) = some 5 := by kernel_rfl
theorem inz34 : (Tryd.prog.info? 34).map (·.size) = some 1 := by kernel_rfl
theorem inz35 : (Tryd.prog.info? 35).map (·.size) = some 1 := by kernel_rfl
theorem inz37 : (Tryd.prog.info? 37).map (·.size) = some 1 := by kernel_rfl
theorem inz38 : (Tryd.prog.info? 38).map (·.size) = some 2 := by kernel_rfl
theorem inz39 : (Tryd.prog.info? 39).map (·.size) = some 2 := by kernel_rfl
theorem inz40 : (Tryd.prog.info? 40).map (·.size) = some 1 := by kernel_rfl
theorem inz42 : (Tryd.prog.info? 42).map (·.size) = some 1 := by kernel_rfl
theorem inz43 : (Tryd.prog.info? 43).map (·.size) = some 1 := by kernel_rfl
theorem inz44 : (Tryd.prog.info? 44).map (·.size) = some 1 := by kernel_rfl
theorem inz45 : (Tryd.prog.info? 45).map (·.size) = some 1 := by kernel_rfl
theorem inz48 : (Tryd.prog.info? 48).map (·.size) = some 1 := by kernel_rfl
theorem inz49 : (Tryd.prog.info? 49).map (·.size) = some 1 := by kernel_rfl
theorem inz50 : (Tryd.prog.info? 50).map (·.size) = some 1 := by kernel_rfl
theorem inz51 : (Tryd.prog.info? 51).map (·.size) = some 1 := by kernel_rfl
theorem inz52 : (Tryd.prog.info? 52).map (·.size) = some 1 := by kernel_rfl
theorem inz53 : (Tryd.prog.info? 53).map (·.size) = some 1 := by kernel_rfl
theorem inz54 : (Tryd.prog.info? 54).map (·.size) = some 1 := by kernel_rfl
theorem inz55 : (Tryd.prog.info? 55).map (·.size) = some 1 := by kernel_rfl
theorem inz56 : (Tryd.prog.info? 56).map (·.size) = some 1 := by kernel_rfl
theorem inz57 : (Tryd.prog.info? 57).map (·.size) = some 1 := by kernel_rfl
theorem inz59 : (Tryd.prog.info? 59).map (·.size) = some 1 := by kernel_rfl
theorem inz60 : (Tryd.prog.info? 60).map (·.size) = some 1 := by kernel_rfl
theorem inz61 : (Tryd.prog.info? 61).map (·.size) = some 1 := by kernel_rfl
theorem inz62 : (Tryd.prog.info? 62).map (·.size) = some 1 := by kernel_rfl
theorem inz63 : (Tryd.prog.info? 63).map (·.size) = some 12 := by kernel_rfl
theorem inz64 : (Tryd.prog.info? 64).map (·.size) = some 12 := by kernel_rfl
theorem inz65 : (Tryd.prog.info? 65).map (·.size) = some 1 := by kernel_rfl
theorem inz66 : (Tryd.prog.info? 66).map (·.size) = some 1 := by kernel_rfl
theorem inz67 : (Tryd.prog.info? 67).map (·.size) = some 1 := by kernel_rfl
theorem inz68 : (Tryd.prog.info? 68).map (·.size) = some 1 := by kernel_rfl
theorem inz69 : (Tryd.prog.info? 69).map (·.size) = some 1 := by kernel_rfl
theorem inz70 : (Tryd.prog.info? 70).map (·.size) = some 1 := by kernel_rfl
theorem inz71 : (Tryd.prog.info? 71).map (·.size) = some 1 := by kernel_rfl
theorem inz72 : (Tryd.prog.info? 72).map (·.size) = some 1 := by kernel_rfl
theorem inz73 : (Tryd.prog.info? 73).map (·.size) = some 2 := by kernel_rfl
theorem inz74 : (Tryd.prog.info? 74).map (·.size) = some 2 := by kernel_rfl
theorem inz75 : (Tryd.prog.info? 75).map (·.size) = some 2 := by kernel_rfl
theorem inz76 : (Tryd.prog.info? 76).map (·.size) = some 2 := by kernel_rfl
theorem inz77 : (Tryd.prog.info? 77).map (·.size) = some 1 := by kernel_rfl
theorem inz78 : (Tryd.prog.info? 78).map (·.size) = some 1 := by kernel_rfl
theorem inz79 : (Tryd.prog.info? 79).map (·.size) = some 1 := by kernel_rfl
theorem inz80 : (Tryd.prog.info? 80).map (·.size) = some 1 := by kernel_rfl
theorem inz81 : (Tryd.prog.info? 81).map (·.size) = some 1 := by kernel_rfl
theorem inz82 : (Tryd.prog.info? 82).map (·.size) = some 1 := by kernel_rfl
theorem inz83 : (Tryd.prog.info? 83).map (·.size) = some 1 := by kernel_rfl
theorem inz84 : (Tryd.prog.info? 84).map (·.size) = some 1 := by kernel_rfl
theorem inz85 : (Tryd.prog.info? 85).map (·.size) = some 1 := by kernel_rfl
theorem inz86 : (Tryd.prog.info? 86).map (·.size) = some 1 := by kernel_rfl
theorem inz87 : (Tryd.prog.info? 87).map (·.size) = some 3 := by kernel_rfl
theorem inz88 : (Tryd.prog.info? 88).map (·.size) = some 3 := by kernel_rfl
theorem inz89 : (Tryd.prog.info? 89).map (·.size) = some 1 := by kernel_rfl

end Go.Proofs.YtenafinbaanicaaDoor
