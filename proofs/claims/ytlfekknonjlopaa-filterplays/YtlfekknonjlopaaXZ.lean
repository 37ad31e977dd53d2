/- New slices of what lies somewhere. -/
import Derived.Test.YtlfekknonjlopaaXY
import Derived.Laws.Tables
namespace Go.Proofs.Ytlfekknonjlopaa
open Go.RowKit
set_option linter.unusedVariables false
set_option linter.unusedSimpArgs false
/-- What n elements of K cells are, one behind the other. -/
def Row (K n : Nat) (F : Nat → Nat → Value) (cs : List Value) : Prop := cs.length = n * K ∧ ∀ i j, i < n → j < K → cs[i * K + j]? = some (F i j)
theorem row_flat {α : Type} (K : Nat) (f : α → List Value) (hf : ∀ x, (f x).length = K) (d : α) : ∀ (l : List α), Row K l.length (fun i j => (f (l.getD i d)).getD j undef) (l.flatMap f)
  | [] => ⟨by simp, fun i j h => by simp at h⟩
  | x :: l => by
    obtain ⟨h1, h2⟩ := row_flat K f hf d l
    refine ⟨by simp only [List.flatMap_cons, List.length_append, h1, hf, List.length_cons, Nat.succ_mul]; omega, fun i j hi hj => ?_⟩
    rw [List.flatMap_cons]
    cases i with
    | zero =>
      rw [Nat.zero_mul, Nat.zero_add, List.getElem?_append_left (by rw [hf]; exact hj)]
      have hjl : j < (f x).length := by rw [hf]; exact hj
      rw [List.getElem?_eq_getElem hjl]
      simp only [List.getD_cons_zero]
      rw [List.getD_eq_getElem?_getD, List.getElem?_eq_getElem hjl]
      rfl
    | succ i =>
      rw [List.getElem?_append_right (by rw [hf, Nat.succ_mul]; omega), hf, show (i + 1) * K + j - K = i * K + j by rw [Nat.succ_mul]; omega]
      simp only [List.getD_cons_succ]
      exact h2 i j (by simpa using hi) hj
theorem slO_cells {T : List Blk} {K n : Nat} {F : Nat → Nat → Value} {g o : Nat} {cs : List Value} {w : World} (H : SlO T K n F (some ⟨g, o, none⟩) g o) (hT : ∀ b ∈ T, w.heap[b.g]? = some b.Z) (hr : Row K n F cs) (hK : 0 < K) : ∀ j u, cs[j]? = some u → w.cell? ((⟨g, o, none⟩ : Addr).add j) = some u := fun j u hu => by
  have hj := (List.getElem?_eq_some_iff.1 hu).1
  have hn : 0 < n := Nat.pos_of_ne_zero fun h => by rw [hr.1, h, Nat.zero_mul] at hj; omega
  obtain ⟨-, Z, e, fr, hm, hz⟩ := H hn
  have hd : j / K * K + j % K = j := Nat.div_add_mod' j K
  have h1 : j / K < n := Nat.div_lt_of_lt_mul (by rw [Nat.mul_comm]; rw [hr.1] at hj; exact hj)
  have h2 := hr.2 (j / K) (j % K) h1 (Nat.mod_lt _ hK)
  rw [hd, hu] at h2
  have h3 := hz (j / K) (j % K) h1 (Nat.mod_lt _ hK)
  rw [show o + j / K * K + j % K = o + j by omega] at h3
  rw [show (⟨g, o, none⟩ : Addr).add j = ⟨g, o + j, none⟩ by simp [Addr.add_lit], cell_atR (hT _ hm), h3, ← h2]
/-- Elements are put behind none. -/
theorem ap_new {P : Program} {w : World} {t ty e : TypeId} {K : Nat} {zv : Value} (ht : P.underlying t = some (.slice e)) (hin : InfoK P e K zv) (hzc : zv.cells.size = K) (hK : 0 < K) {n : Nat} {cs : List Value} {T : List Blk} {F : Nat → Nat → Value} {v : Value} (hs : Sl T K n F v) (hT : ∀ b ∈ T, w.heap[b.g]? = some b.Z) (hr : Row K n F cs) (h1 : ∀ u ∈ cs, u.oneCell' = true) (hle : n < 1100000) (a : Option Addr) :
    ∃ v' T' w', (Builtin.append_ #[t, t] ty #[.slice a 0 0, v]).run P w = .ok v' w' ∧ Buf K e n cs v' T' ∧ OkT w w' [] T' := by
  obtain ⟨info, i1, i2, i3, i4⟩ := hin
  subst i3
  obtain ⟨base, cap, g, o, rfl, H⟩ := hs
  by_cases h0 : n = 0
  · subst h0
    have hc0 : cs = [] := List.length_eq_zero_iff.1 (by rw [hr.1, Nat.zero_mul])
    subst hc0
    refine ⟨.slice a 0 0, [], w, ?_, ⟨by simp, .inl ⟨rfl, ⟨a, rfl⟩, rfl⟩⟩, ⟨grw_refl _ _, by simp, by simp, by simp⟩⟩
    have hf : (Builtin.firstCells info.size 0 (.slice base 0 cap)).run P w = .ok (#[] : Array Value) w := by
      cases base with
      | none => exact run_firstCells_none w info.size 0 0 cap
      | some a => exact run_firstCells_some w info.size 0 a 0 cap [] (by simp) (fun j v h => by simp at h)
    cases a with
    | none => simp [Builtin.append_, run_underlying ht, sizeOf, typeInfo, i1, Builtin.lenOf, hf]
    | some a => simp [Builtin.append_, run_underlying ht, sizeOf, typeInfo, i1, Builtin.lenOf, hf, storeCells]
  · have hb := (H (by omega)).1
    subst hb
    have hsrc : Src P info.size t (.slice (some ⟨g, o, none⟩) n cap) n cs w := Src.ofSlice w ht ⟨g, o, none⟩ n cap cs hr.1 (slO_cells H hT hr hK) h1
    have hf : (Builtin.firstCells info.size 0 (.slice a 0 0)).run P w.drew = .ok ([] : List Value).toArray w.drew := firstCells0 w.drew info.size a
    have hrun := run_append_grow_src (P := P) w t t ty e info zv ht i1 i2 a 0 0 [] hf (.slice (some ⟨g, o, none⟩) n cap) n cs hsrc (by omega) (by omega) (growslice_fits (by omega) (by
      have := Nat.mul_le_mul (show 0 + n ≤ 1100000 by omega) i4
      omega))
    have hge := grownCap_ge w (0 + n) 0 e
    generalize grownCap w (0 + n) 0 e = nc at hrun hge
    obtain ⟨q, rfl⟩ : ∃ q, nc = 0 + n + q := ⟨nc - (0 + n), by omega⟩
    refine ⟨_, [⟨w.heap.size, .cells (([] ++ cs).toArray ++ Builtin.zeroCells zv.cells (0 + n + q - (0 + n))) e (0, 0)⟩], _, hrun, ⟨hr.1, .inr ⟨w.heap.size, 0 + n + q, cs ++ (Builtin.zeroCells zv.cells (0 + n + q - (0 + n))).toList, by rw [Nat.zero_add], by omega, ?_, ?_, ?_⟩⟩, ⟨rfl, rfl, rfl, by simp, fun k hk _ => Below.heap_alloc _ _ _ hk⟩, ?_, by simp, ?_⟩
    · rw [List.length_append, hr.1, Array.length_toList, size_zeroCells, hzc, Nat.add_sub_cancel_left, ← Nat.add_mul, Nat.zero_add]
    · rw [← hr.1]
      exact List.take_left
    · refine congrArg (fun A => [(⟨w.heap.size, .cells A e (0, 0)⟩ : Blk)]) (Array.ext' (by simp))
    · intro b hb
      simp only [List.mem_singleton] at hb
      subst hb
      exact heap_alloc_new w.drew _
    · intro b hb
      simp only [List.mem_singleton] at hb
      subst hb
      exact .inr (Nat.le_refl _)
section
variable {P : Program} {S : Seat P} {C : World → Prop}
/-- An element's cells, told by values. -/
def dLdRe (t : TypeId) (b : Nat) {T : List Blk} {K n : Nat} {F : Nat → Nat → Value} {base : Option Addr} {g o : Nat} (H : SlO T K n F base g o) (i : Nat) (cs : List Value) (h : i < n) (hc : (List.range K).map (F i) = cs) (hs : Nat.beq K (sizeT P t) = true := by kernel_rfl) (ha : aggT P t = some true := by kernel_rfl) : Dr S C :=
  dRdX (oOp 2 t 0 [] [vV (.pointer (some ⟨g, o + i * K, none⟩))]) b T (vG (cs.map vV)) fun E w _ _ hT => by
    subst hc
    obtain ⟨-, Z, e, fr, hm, hz⟩ := H (by omega)
    have hh := hT _ hm
    rw [vG_map]
    exact load_row (cs := (List.range K).map (F i)) ha (by rw [List.length_map, List.length_range]; exact nbeq.1 hs) (info_some ha) fun j x hx => by
      obtain ⟨hj, hx⟩ := List.getElem?_eq_some_iff.1 hx
      simp only [List.length_map, List.length_range] at hj
      simp only [List.getElem_map, List.getElem_range] at hx
      subst hx
      rw [cell_atR hh]
      exact hz i j h hj
theorem four {f : Nat → Value} {a b c d : Value} (h0 : f 0 = a) (h1 : f 1 = b) (h2 : f 2 = c) (h3 : f 3 = d) : (List.range 4).map f = [a, b, c, d] := by
  show [f 0, f 1, f 2, f 3] = _
  rw [h0, h1, h2, h3]
theorem cells_1 {v : Value} (h : v.oneCell' = true) : v.cells = #[v] := by
  cases v <;> first | rfl | cases h
/-- A struct of fields of one cell each. -/
def dBld (t : TypeId) (xs : List SV) (ps : List (Nat × Nat)) (zs : List Value) (h : ∀ E : Nat → Ent, ∀ x ∈ xs, (x.den E).oneCell' = true) (hc : ∀ E : Nat → Ent, xs.map (SV.den E) = xs.map (SV.denC E)) (hp : ps = (List.range xs.length).map fun i => (i, 1)) (hz : zs.length = xs.length)
    (hb : (fun l => P.built t l) = (fun l => Instr.fill (ps.toArray[·]?) zs.toArray l) := by kernel_rfl) : Dr S C :=
  dRd ⟨15, t, 0, .append, List.range xs.length, [], xs⟩ (vG xs) fun E w _ _ => by
    have key : ∀ (vs : List Value) (k : Nat) (cs : List Value), (∀ v ∈ vs, v.oneCell' = true) → k + vs.length = xs.length → cs.length = xs.length → Instr.fill (ps.toArray[·]?) cs.toArray ((List.range' k vs.length).zip vs) = some (cs.take k ++ vs).toArray := by
      intro vs
      induction vs with
      | nil => intro k cs _ hk hcs; simp only [List.length_nil, List.range'_zero, List.zip_nil_left, Instr.fill, List.append_nil]; rw [List.take_of_length_le (by simp at hk; omega)]
      | cons v vs ih =>
        intro k cs h1 hk hcs
        simp only [List.length_cons] at hk
        have hv := cells_1 (h1 v (by simp))
        have hpk : ps.toArray[k]? = some (k, 1) := by rw [List.getElem?_toArray, hp, List.getElem?_map, List.getElem?_range (by omega)]; rfl
        rw [List.length_cons, List.range'_succ, List.zip_cons_cons, Instr.fill]
        simp only [hpk, hv]
        rw [if_neg (by simp; omega)]
        have hs : (#[v].zipIdx.foldl (fun (cs : Array Value) (p : Value × Nat) => cs.setIfInBounds (k + p.2) p.1) cs.toArray) = (cs.set k v).toArray := by simp
        have := ih (k + 1) (cs.set k v) (fun u hu => h1 u (by simp [hu])) (by omega) (by simpa using hcs)
        rw [show (cs.set k v).take (k + 1) = cs.take k ++ [v] by rw [List.take_add_one, List.take_set_of_le (Nat.le_refl k), List.getElem?_set, if_pos rfl, if_pos (by omega)]; rfl, List.append_assoc] at this
        refine Eq.trans ?_ (this.trans (by simp))
        rw [← hs]
    have hb : ∀ l, P.built t l = Instr.fill (ps.toArray[·]?) zs.toArray l := congrFun hb
    have hbt : P.built t ((List.range xs.length).zip (xs.map (SV.den E))) = some (xs.map (SV.den E)).toArray := by
      rw [hb]
      have := key (xs.map (SV.den E)) 0 zs (fun v hv => by obtain ⟨x, hx, rfl⟩ := List.mem_map.1 hv; exact h E x hx) (by simp) hz
      rw [List.length_map, ← List.range_eq_range', List.take_zero, List.nil_append] at this
      exact this
    show (semV (Instr.build t ((List.range xs.length).zip (xs.map (SV.den E))).toArray)).run P w = _
    have hr := run_build (P := P) w t ((List.range xs.length).zip (xs.map (SV.den E))).toArray (xs.map (SV.den E)).toArray (by simpa using hbt)
    simp only [semV, Sem.run_bind, hr, Result.andThen_ok, Sem.run_pure]
    rw [hc E]
    rfl
/-- How long a slice is that is told by what lies there. -/
def dLenS (t ty : TypeId) {T : List Blk} {K n : Nat} {F : Nat → Nat → Value} (v : Value) (h : Sl T K n F v) (hu : P.underlying t = some (.slice (P.elem t)) := by kernel_rfl) : Dr S C :=
  dRd (oBi .len [t] ty [false] [vV v]) (vV (.int .i64 (n : Int))) fun E w _ _ => by
    obtain ⟨base, cap, g, o, rfl, -⟩ := h
    show (do pure (Next.value (← Builtin.len_ #[t] ty #[.slice base n cap])) : Sem Next).run P w = _
    simp only [Sem.run_bind, run_len_slice w t ty base n cap hu, Result.andThen_ok, Sem.run_pure]
    rfl
/-- A new slice of what lies in memory b. -/
def dApN (t ty e : TypeId) (K : Nat) (zv : Value) (c0 : Bool) (s : SV) (hs : ∀ E, ∃ a, s.den E = .slice a 0 0) (b : Nat) {T : List Blk} {n : Nat} {F : Nat → Nat → Value} (v : Value) (h : Sl T K n F v) (cs : List Value) (hr : Row K n F cs) (h1 : ∀ u ∈ cs, u.oneCell' = true) (hle : n < 1100000)
    (ht : P.underlying t = some (.slice e) := by kernel_rfl) (g1 : (P.info? e).map (·.zero) = some (some zv) := by kernel_rfl) (g2 : (P.info? e).map (·.size) = some K := by kernel_rfl) (hB : ((P.info? e).map fun i => Nat.ble i.bytes 128) = some true := by kernel_rfl) (hq : (Nat.beq zv.cells.size K && Nat.blt 0 K) = true := by kernel_rfl) : Dr S C :=
  dSp fun bb => ⟨oBi .append [t, t] ty [c0, false] [s, vV v], [(b, tX T)], [], [], [tD (Buf K e n cs)], vW bb, fun _ hb => fun E w hL hC Th hok => by
    have hd : denP E ([(b, tX T)] ++ []) = T := by
      show T ++ [] = T
      rw [List.append_nil]
    rw [hd] at Th
    simp only [Bool.and_eq_true, nbeq] at hq
    have hK : 0 < K := by simpa [Nat.blt_eq] using hq.2
    have hin : InfoK P e K zv := by
      cases hh : P.info? e with
      | none => rw [hh] at g2; cases g2
      | some i =>
        rw [hh] at g1 g2 hB
        simp only [Option.map_some, Option.some.injEq] at g1 g2 hB
        exact ⟨i, hh, g1, g2, Nat.le_of_ble_eq_true hB⟩
    obtain ⟨a, ha⟩ := hs E
    obtain ⟨v', T', w', hrun, hB', hT'⟩ := ap_new (ty := ty) ht hin hq.1 hK h Th.at_ hr h1 hle a
    have hrun2 : ((oBi .append [t, t] ty [c0, false] [s, vV v]).sem E).run P w = .ok (.value v') w' := by
      show (do pure (Next.value (← Builtin.append_ #[t, t] ty #[s.den E, v])) : Sem Next).run P w = _
      rw [ha]
      simp only [Sem.run_bind, hrun, Result.andThen_ok, Sem.run_pure]
    rw [hrun2]
    let E' : Nat → Ent := fun i => bif Nat.beq i bb then ⟨0, v', T', buf_one hB'⟩ else E i
    have hbb : E' bb = ⟨0, v', T', buf_one hB'⟩ := by
      have : Nat.beq bb bb = true := nbeq.2 rfl
      simp only [E', this, cond_true]
    refine ⟨E', fun i hi => ?_, ?_, ?_, ?_⟩
    · have : Nat.beq i bb = false := by
        cases hh : Nat.beq i bb with
        | false => rfl
        | true =>
          have h2 : newAt bb 1 bb = true := by simp [newAt, Nat.blt_eq]
          rw [nbeq.1 hh] at hi
          have hi : newAt bb 1 bb = false := hi
          rw [h2] at hi
          cases hi
      simp only [E', this, cond_false]
    · intro p hp
      simp [ix] at hp
      rcases hp with rfl | rfl
      · trivial
      · show Buf K e n cs (E' bb).v (E' bb).T
        rw [hbb]
        exact hB'
    · show v' = (E' bb).v
      rw [hbb]
    · have e2 : denP E' ([(b, tX T)] ++ (((([] : List (Nat × It)).map Prod.fst).zip ([] : List It)) ++ ix bb [tD (Buf K e n cs)])) = T ++ T' := by
        show T ++ ((E' bb).T ++ []) = _
        rw [hbb, List.append_nil]
      rw [hd, e2]
      have M := (Mem.start hL (T := [] ++ T) Th).step hT'
      have := M.okT
      exact this.perm (List.Perm.refl _) List.perm_append_comm⟩
end
end Go.Proofs.Ytlfekknonjlopaa
